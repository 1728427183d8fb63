import PyProof.Rows.All
import Wide.All
import OpenK.AllK
import Wide.FinOn
import HandS.ForMost
import HandS.Exc
import HandS.ExcOwn
import HandS.ExcInit
import HandS.ExcValue
import HandS.IsInst
import HandS.ExcIs
import HandS.ExcField
import KE.KExcIs
import KE.KExcInit
import HandS.Evl
import HandS.Dict
import PyProof.ReprRoads
import KE.KeyNested
import PyProof.DictDisplay
import HandS.Iter
import HandS.More
import HandS.Style
import HandS.Deep
import PyProof.ReprReads
import PyProof.StrLawsRepr
import HandS.Lambda
import HandS.Nested
import PyProof.AutoSeq1
import PyProof.DelItemList
import HandS.EndTab
import KE.KNest
import HandS.DictComp
import KE.KDictCopyH
import HandS.DictTup
import HandS.ListItems
import HandS.Walk
import HandS.Rev
import PySem.Challenge.RW_movedactors_k14_values_of_terms
set_option Elab.async false
set_option linter.all false
set_option maxRecDepth 100000
set_option maxHeartbeats 4000000
/-! Exceptions as values: made by a call of their class, told their fields, asked for their kind. -/
namespace PySem
namespace VfX
open PySem.W PySem.Calls PyProof.Rows
open Builtin Builtin.ObjectAttr

/-- own classes ahead of a built-in class's line -/
def refsT (tl : List Value) : List Value → Bool
  | .ref c :: r => refsT tl r || decide (Value.ref c :: r = tl)
  | l => decide (l = tl)
theorem refsT_cases (tl : List Value) : ∀ l : List Value, refsT tl l = true →
    (∃ c r, l = .ref c :: r ∧ refsT tl r = true) ∨ l = tl := by
  intro l h
  unfold refsT at h
  split at h
  · rename_i c r
    rcases Bool.or_eq_true_iff.mp h with q | q
    · exact .inl ⟨c, r, rfl, q⟩
    · exact .inr (of_decide_eq_true q)
  · exact .inr (of_decide_eq_true h)

/-- what a built-in exception's line says -/
structure Tl (tl : List Value) : Prop where
  pass : ∀ self, refuseLoop self "__setattr__" tl = pure ()
  obj : tl.contains (.type "object") = true
  ne : tl ≠ []
theorem tlVE : Tl [.type "ValueError", .type "Exception", .type "BaseException", .type "object"] :=
  ⟨fun s => F.store_ValueError.passes s, by decide +kernel, by decide⟩
theorem tlLE : Tl [.type "LookupError", .type "Exception", .type "BaseException", .type "object"] :=
  ⟨fun s => F.store_LookupError.passes s, by decide +kernel, by decide⟩
variable {tl : List Value}
theorem refsT_pass (T : Tl tl) (self : Value) : ∀ l : List Value, refsT tl l = true → refuseLoop self "__setattr__" l = pure () := by
  intro l
  induction l with
  | nil =>
    intro e
    rcases refsT_cases tl [] e with ⟨c, r, q, _⟩ | q
    · cases q
    · exact absurd q.symm T.ne
  | cons a r ih =>
    intro e
    rcases refsT_cases tl (a :: r) e with ⟨c, r', q, h⟩ | q
    · obtain ⟨rfl, rfl⟩ := List.cons.inj q
      rw [refuseLoop_ref]
      exact ih h
    · rw [q]
      exact T.pass self
theorem refsT_has (Y : String) : ∀ l : List Value, refsT tl l = true → l.contains (.type Y) = tl.contains (.type Y) := by
  intro l
  induction l with
  | nil =>
    intro e
    rcases refsT_cases tl [] e with ⟨c, r, q, _⟩ | q
    · cases q
    · rw [q]
  | cons a r ih =>
    intro e
    rcases refsT_cases tl (a :: r) e with ⟨c, r', q, h⟩ | q
    · obtain ⟨rfl, rfl⟩ := List.cons.inj q
      rw [List.contains_cons, ih h]
      rfl
    · rw [q]
theorem refsT_some (T : Tl tl) {l : List Value} (e : refsT tl l = true) : l.isEmpty = false := by
  rcases refsT_cases tl l e with ⟨c, r, q, _⟩ | q
  · rw [q]
    rfl
  · rw [q]
    cases tl with
    | nil => exact absurd rfl T.ne
    | cons _ _ => rfl

section
variable {prog : Program} {w : World} {A : Around} {R : Result → Shared → Prop} {hp : Heap} {g : Array GenState} {d : Drawn} {t : Nat} {os : OsState}
variable {K : W.Frag} {name : Str} {tk : Tok} {v : Value} {x C dx : Addr} {fv : Array Value} {cd : ClassData} {m0 : Str → Option Value} {nl : List Str}
/-- the first field of an exception of any line -/
theorem osa_first (T : Tl tl) (X : K.In hp) (hx : hp.get? x = some { cls := .ref C, data := .fields fv })
    (hcd : W.clsIn K C = some cd) (hm : refsT tl cd.mro = true) (hh : cd.hasDict = true) (ha : W.findIn K (.ref C) name = some none)
    (hq : ∀ h' tk' dx, (∀ b o, b ≠ x → hp.get? b = some o → h'.get? b = some o) → hp.objs.size ≤ dx → dx ≠ x →
      h'.get? x = some { cls := .ref C, dict := some dx, data := .fields fv } →
      h'.Ns1 dx (fun y => if y = name then some v else none) → R (.ok (.ret .none)) ⟨h', g, d, tk', os⟩) :
    codeAny (model prog w) A (.call (.builtin "object.__setattr__") ⟨[.ref x, .str name tk, v], []⟩) R ⟨hp, g, d, t, os⟩ := by
  have inst : W.InstAt hp x { cls := .ref C, data := .fields fv } C none := ⟨hx, rfl, rfl, trivial⟩
  have S := F.store_object
  have nempty := refsT_some T hm
  have isob : cd.mro.contains (.type "object") = true := (refsT_has "object" _ hm).trans T.obj
  have xnew : x ≠ hp.objs.size := Nat.ne_of_lt (Heap.lt_size hx)
  have lookSub : W.Looks (model prog w) hp (isInstance (.ref x) (.type "object")) true :=
    inst.type.andThen (W.looks_mroIn X (by unfold W.mroIn; rw [hcd, Option.bind_some, if_neg (by rw [nempty]; decide), isob]))
  refine codeAny_call_builtin S.slot.plain S.entry
    (@W.check_slot (model prog w) _ _ ⟨hp, g, d, t, os⟩ "object.__setattr__" "object" "__setattr__" (.ref x) [.str name tk, v] [] _
      S.kind S.split lookSub (S.args (.ref x) (.str name tk) v) ?_)
  have lookMro : W.Looks (model prog w) hp (mroOf (.ref C)) cd.mro := (W.looks_clsIn X hcd).andThen .now
  have lookTaker : W.Looks (model prog w) hp (storeTaker? none) none := .now
  have lookCls : W.Looks (model prog w) hp (classData C) cd := W.looks_clsIn X hcd
  rw [W.osa_eq, refuse_eq]
  refine wpAny_bind (wpAny_bind (inst.type.at (wpAny_bind (lookMro.at ?_))))
  rw [refsT_pass T _ _ hm]
  refine wpAny_pure (wpAny_bind (inst.type.at (wpAny_bind ((W.looks_findIn X ha).at (wpAny_bind (lookTaker.at ?_))))))
  show wpAny _ _ (storeInOwnDict (.ref x) (.ref C) (.str name tk) name v false) _ _ _
  obtain ⟨nm, bs, mro, ns, qn, hd, sn, sb, ab, col, del⟩ := cd
  dsimp only at hh
  subst hh
  unfold storeInOwnDict ownDictForStores
  repeat (first
    | with_reducible refine PySem.HandSPX.store_in_new ?_ ?_
    | with_reducible refine wpAny_loadPart_at hx ?_
    | with_reducible refine lookCls.at ?_
    | wp_step)
  · exact ⟨_, #[], _, (Heap.get?_update_ne _ _ _ _ xnew.symm).trans (Heap.get?_push_at rfl rfl), rfl, fun e he => absurd he (by simp), fun _ => rfl⟩
  · intro h' tk' hn' hs
    have stays : (hp.push { cls := .type "dict", data := .dict #[] }).get? x = some { cls := .ref C, data := .fields fv } := Heap.get?_push_of_some _ hx
    refine hq h' tk' hp.objs.size (fun b o hb ho => ?_) (Nat.le_refl _) xnew.symm ?_ hn'
    · exact (hs.2 b (Nat.ne_of_lt (Heap.lt_size ho))).trans ((Heap.get?_update_ne _ _ _ _ hb).trans (Heap.get?_push_of_some _ ho))
    · exact (hs.2 x xnew).trans (Heap.get?_update_self _ stays rfl)
end
end VfX
end PySem

namespace L2.Vf
open PySem PySem.Spec PyProof.Rows

/-- what the written part says of an own exception class at C whose line ends in tl -/
structure Xcl (K : PySem.W.Frag) (C : Addr) (tl : List Value) (newId : String) : Prop where
  cls : ∃ nm q N bs bm sn sub ab col dd k0 k1 k2 k3 k5,
    K.lookup C = some (excClassObj nm q C N bs bm true sn sub ab col dd k0 k1 k2 k3 k5 newId) ∧ VfX.refsT tl bm = true
  sa : PySem.W.findIn K (.ref C) "__setattr__" = some (some (.builtin "object.__setattr__"))
  kp : PySem.W.keepIn K (.ref C) = true

section
variable {X : Cx} {pins : List (Addr × Obj)} {σ : St} {H : Hp} {s : Shared} {a C dx CA : Addr} {f b : Str} {y : V} {u : Value}
variable {A : Around} {tl : List Value} {B newId initId : String} {e o : Expr} {es : List Expr} {te to : TE} {ta : TA} {p p' p1 p2 pos : Pos}

theorem first_field {Q : Unit → Shared → Prop} {E : Value → Shared → Prop} (T : VfX.Tl tl) (W : Xcl X.K C tl newId) (I : Inv X pins σ H s)
    (ex : H a = some (exo a C none)) (no : PySem.W.findIn X.K (.ref C) f = some none) (ry : RelV y u)
    (h : ∀ dx s', H dx = none → dx ≠ a → Inv X pins σ (upd (upd H dx (exd dx [(f, y)])) a (exo a C (some dx))) s' → Q () s') :
    wpAny (model X.prog X.w) A (setAttr (.ref a) f u) Q E s := by
  obtain ⟨nm, q, N, bs, bm, sn, sub, ab, col, dd, k0, k1, k2, k3, k5, hC, hbm⟩ := W.cls
  have hcl : PySem.W.clsIn X.K C = some { name := nm, bases := bs, mro := .ref C :: bm, ns := N, qualname := q, hasDict := true, slotNames := sn, subclasses := sub, abstract := ab, collection := col, hasDel := false } := by
    unfold PySem.W.clsIn
    rw [hC]
  have hmro : VfX.refsT tl (.ref C :: bm) = true := by
    unfold VfX.refsT
    rw [hbm]
    rfl
  obtain ⟨t1, ho⟩ := exo_at I.hok ex
  obtain ⟨hp, g, d, t, os⟩ := s
  refine PySem.W.set_plain I.kIn (od := none)
    (ox := { cls := .ref C, dict := none, data := .fields #[.ref t1, .none, .none, .none, .bool false, .none] })
    ⟨ho, rfl, rfl, trivial⟩ W.sa ?_
  refine VfX.osa_first T I.kIn ho hcl hmro rfl no fun h' tk' dx k dn dne hx hn => ?_
  have freeD : H dx = none := I.hok.fresh dn
  have offD : ∀ {c : Addr} {ob : Obj}, hp.get? c = some ob → c ≠ dx :=
    fun {c ob} z => Nat.ne_of_lt (Nat.lt_of_lt_of_le (Heap.lt_size z) dn)
  have offA : ∀ {c : Addr}, H c = none → c ≠ a := fun {c} n z => by
    rw [z, ex] at n
    cases n
  have un : Un X.fs [] H (upd (upd H dx (exd dx [(f, y)])) a (exo a C (some dx))) hp h' := {
    keep := fun c ob z n _ _ => k c ob (offA n) z
    slot := fun c ob z n _ _ => ⟨ob.slots, k c ob (offA n) z⟩
    free := fun c ob z n _ => by
      rw [upd_ne (offA n), upd_ne (offD z)]
      exact n
    there := fun c ob z _ => by
      by_cases hc : c = a
      · exact ⟨_, by rw [hc]; exact hx⟩
      · exact ⟨ob, k c ob hc z⟩
    tups := fun c xs z => by
      rw [upd_ne (at_ne ex z exo_tup), upd_ne (ne_of_none z freeD)]
      exact z
    frzs := fun c ob v z => by
      rw [upd_ne (at_ne ex z exo_frz), upd_ne (ne_of_none z freeD)]
      exact z
    tbls := fun c ps z => ⟨#[], by rw [upd_ne (at_ne ex z exo_tbl), upd_ne (ne_of_none z freeD), z]; simp⟩ }
  refine h dx _ freeD dne (I.un (t' := tk') un fun c ob z => ?_)
  by_cases hc : c = a
  · subst hc
    rw [upd_same] at z
    cases z
    exact exo_ok hx
  · rw [upd_ne hc] at z
    by_cases hd : c = dx
    · subst hd
      rw [upd_same] at z
      cases z
      exact exd_ok hn (relO_put (fs := []) ry fun _ => True.intro)
    · rw [upd_ne hd] at z
      refine (I.hok c ob z).stay (fun r v hr q => k r v ?_ q) (fun r hr => ?_) fun r xs hr => ?_
      · rcases hr with hr | hr
        · rw [hr]
          exact hc
        · exact at_ne ex hr exo_own
      · rw [upd_ne (at_ne ex hr exo_own), upd_ne (ne_of_none hr freeD)]
        exact hr
      · rw [upd_ne (at_ne ex hr exo_tup), upd_ne (ne_of_none hr freeD)]
        exact hr

/-- self.f = e, the first field of an exception -/
def tFirst (K : PySem.W.Frag) (tl : List Value) (newId : String) (f : Str) (to te : TE) : TS := fun D σ H =>
  te σ H fun y H1 => to σ H1 fun x H2 => ∃ a C : Addr, x = .ref a ∧ Xcl K C tl newId ∧ PySem.W.findIn K (.ref C) f = some none ∧
    H2 a = some (exo a C none) ∧ ∀ dx, H2 dx = none → dx ≠ a → D.nx σ (upd (upd H2 dx (exd dx [(f, y)])) a (exo a C (some dx)))
theorem ps_first (T : VfX.Tl tl) (ho : PE X o to) (he : PE X e te)
    (hs : swapsWith e (some (.Attribute o f p')) pos.line X.env = pure false := by rfl) :
    PS X (.Assign [.Attribute o f p'] e pos) (tFirst X.K tl newId f to te) := by
  refine ⟨fun pins s σ H D I h => ?_⟩
  refine plainObj_wpAny_Assign_Attribute (thn (he.run pins s σ H _ I h) fun v s1 ⟨y, H1, I1, r1, q1⟩ =>
    thn (ho.run pins s1 σ H1 _ I1 q1) fun w s2 ⟨x, H2, I2, r2, a, C, ex, W, no, ea, q⟩ => ?_) hs
  subst ex
  obtain rfl : w = Value.ref a := r2
  exact first_field T W I2 ea no r1 fun dx s' n ne J => ⟨σ, _, J, q dx n ne⟩

theorem base_init {us : List Value} {Q : Value → Shared → Prop} {E : Value → Shared → Prop} (F : ExcBaseFacts B newId initId tl)
    (W : Xcl X.K C tl newId) (I : Inv X pins σ H s) (ex : H a = some (exo a C none)) (hl : us.length ≤ sizeLine)
    (h : ∀ s', Inv X pins σ H s' → Q .none s') : wpAny (model X.prog X.w) A (call (.builtin initId) (.ref a :: us)) Q E s := by
  obtain ⟨nm, q, N, bs, bm, sn, sub, ab, col, dd, k0, k1, k2, k3, k5, hC, hbm⟩ := W.cls
  obtain ⟨t1, ho⟩ := exo_at I.hok ex
  obtain ⟨hp, g, d, t, os⟩ := s
  refine wpAny_call (PySem.HandSPX.init_base F (fun Y => VfX.refsT_has Y bm hbm) (I.kIn _ _ hC) ho hl fun h' t2 k hx => ?_)
  have J := I.write (t' := t) (x := a) (e := a) (o := exo a C none) (by rw [ex]; exact True.intro) (.inl rfl) k ⟨_, hx⟩ (exo_ok hx)
  have same : upd H a (exo a C none) = H := by
    funext c
    by_cases hc : c = a
    · rw [hc, upd_same, ex]
    · rw [upd_ne hc]
  rw [same] at J
  exact h _ J

/-- Base.__init__(self, ..), Base an own class that has none of its own -/
def tBaseI (K : PySem.W.Frag) (tl : List Value) (newId : String) (ta : TA) : TE := fun σ H Q => ta σ H fun vs H1 =>
  ∃ (a C : Addr) (ws : List V), vs = .ref a :: ws ∧ ws.length ≤ 1000 ∧ Xcl K C tl newId ∧ H1 a = some (exo a C none) ∧ Q .non H1
/-- Base.__init__ is the built-in one -/
structure BaseI (K : PySem.W.Frag) (CA : Addr) (initId : String) : Prop where
  ga : PySem.W.specialIn K (.ref CA) "__getattribute__" = some (some (.builtin "type.__getattribute__"))
  rd : PySem.W.readsIn K CA (.type "type") = true
  at_ : PySem.W.findCls K (.ref CA) (.type "type") "__init__" = some (.val (.builtin initId))
theorem pe_baseI {pl : Sem Bool} (F : ExcBaseFacts B newId initId tl) (M : BaseI X.K CA initId) (hg : Gl X b) (hm : X.mg b = some (.ref CA))
    (ha : PA X (e :: es) ta) (hin : PySem.W.handedIn (.builtin initId) = true := by decide +kernel) (hdb : (b == ("__debug__" : Str)) = false := by decide)
    (hc : eval (.Call (.Attribute (.Name b p1) "__init__" p2) (e :: es) [] pos) X.env = (do
      let ov ← eval (.Name b p1) X.env
      standAt p2.atName
      let (f, first) ← holding [ov] (getMethod ov "__init__" pl)
      callWith pos f first (backTo pos (starEach (e :: es) X.env)) (backToKw pos (keywordEach [] X.env))) := by rfl)
    (he : starEach (e :: es) X.env = (false, eval e X.env) :: starEach es X.env := by rfl)
    (hpl : (backTo pos (starEach es X.env)).any (·.1) = false := by rfl) :
    PE X (.Call (.Attribute (.Name b p1) "__init__" p2) (e :: es) [] pos) (tBaseI X.K tl newId ta) := by
  refine ⟨fun pins s σ H Q I h => ?_⟩
  refine PySem.W.methodCall_KW (ld_glob I hg hm ?_ hdb) hc
  refine PySem.W.method_cls I.kIn M.ga (PySem.W.cls_value I.kIn M.rd M.at_ hin ?_)
  show wpAny _ _ (callWith pos (Value.builtin initId) [] (backTo pos (starEach (e :: es) X.env)) []) _ _ _
  refine PyProof.Rows.callWith_method1 (thn (ha.run pos pins _ σ H _ (I.tok _) h)
    fun us s1 ⟨vs, H1, I1, r1, a, C, ws, ev, hl, W, ea, q⟩ => ?_) he hpl
  subst ev
  cases r1 with
  | @cons _ u0 _ ur ra rw' =>
    obtain rfl : u0 = Value.ref a := ra
    have hlen : ur.length ≤ sizeLine := by
      rw [← Paired.length rw', sizeLine_eq]
      omega
    exact base_init F W I1 ea hlen fun s' J => ⟨.non, H1, J, rfl, q⟩
/-- C(e, ..) as a value, C's own __init__ keeping sp -/
def tExcV (C : Addr) (sp : Sp) (ta : TA) : TE := fun σ H Q => ta σ H fun vs H1 => vs.length ≤ 1000 ∧ ∀ a, H1 a = none →
  sp (.ref a :: vs) (upd H1 a (exo a C none)) (fun v H2 => v = .non ∧ Q (.ref a) H2) (fun _ _ _ => False)
theorem pe_excV {CX : CXT} {x : Str} {fI : Addr} {k : Nat} {fd : FuncData} {ps : List Str} {sp : Sp} (F : ExcBaseFacts B newId initId tl)
    (W : Xcl X.K C tl newId) (iC : PySem.W.findIn X.K (.ref C) "__init__" = some (some (.ref fI)))
    (tI : PySem.W.typeIn X.K (.ref fI) = some (.type "function")) (F1 : FnOk X.prog X.w X.K X.mg X.base CX k fI fd ps sp)
    (hr : Room (k + 1) X.A) (hb : Binds X.K fd ps []) (hx : Passes CX X (fun _ _ _ => False)) (hg : Gl X x) (hm : X.mg x = some (.ref C))
    (ha : PA X (e :: es) ta) (hdb : (x == ("__debug__" : Str)) = false := by decide)
    (he : starEach (e :: es) X.env = (false, eval e X.env) :: starEach es X.env := by rfl)
    (hpl : (backTo pos (starEach es X.env)).any (·.1) = false := by rfl) :
    PE X (.Call (.Name x p) (e :: es) [] pos) (tExcV C sp ta) := by
  refine ⟨fun pins s σ H Q I h => ?_⟩
  obtain ⟨nm, q, N, bs, bm, sn, sub, ab, col, dd, k0, k1, k2, k3, k5, hC, hbm⟩ := W.cls
  refine wpAny_Call_Name_kw (ld_glob I hg hm ?_ hdb)
  refine PySem.W.callWith_K (h₀ := X.base) I.ok.mod.kin W.kp (thn (ha.run pos pins s σ H _ I h)
    fun us s1 ⟨vs, H1, I1, r1, hz, q1⟩ => ⟨I1.kIn, ?_⟩) he hpl
  show wpAny _ _ (call (.ref C) us) _ _ _
  obtain ⟨hp, g, dr, tk, os⟩ := s1
  have hsz : hp.objs.size ≤ hp.objs.size + 1 := Nat.le_succ _
  have hn : H1 (hp.objs.size + 1) = none := I1.hok.fresh hsz
  have hq := q1 (hp.objs.size + 1) hn
  have grown : ∀ b o, hp.get? b = some o → ((hp.push (PySem.W.kdv_tup us)).push (PySem.HandSPX.excO C hp.objs.size)).get? b = some o :=
    fun b o z => Heap.get?_push_of_some _ (Heap.get?_push_of_some _ z)
  have here : ((hp.push (PySem.W.kdv_tup us)).push (PySem.HandSPX.excO C hp.objs.size)).get? (hp.objs.size + 1) = some (PySem.HandSPX.excO C hp.objs.size) := by heap_get
  have I2 := I1.laid (t' := tk) (a := hp.objs.size + 1) (o := exo (hp.objs.size + 1) C none)
    (h' := (hp.push (PySem.W.kdv_tup us)).push (PySem.HandSPX.excO C hp.objs.size)) grown hsz (exo_ok here)
  have r2 : Vals (V.ref (hp.objs.size + 1) :: vs) (Value.ref (hp.objs.size + 1) :: us) := .cons rfl r1
  have hl : (Value.ref (hp.objs.size + 1) :: us).length = ps.length := by
    have z := r2.length
    rw [F1.len _ _ _ _ hq] at z
    exact z.symm
  have hus : us.length ≤ sizeLine := by
    rw [← Paired.length r1, sizeLine_eq]
    omega
  have hbind := hb _ (Value.ref (hp.objs.size + 1) :: us) I2.kIn (by rw [List.append_nil]; exact hl)
  rw [List.append_nil] at hbind
  refine wpAny_call (PySem.HandSPX.call_own F (fun Y => VfX.refsT_has Y bm hbm) (I1.kIn _ _ hC) (PySem.W.looks_findIn I1.kIn iC)
    (fun self => PySem.W.bind_fn I1.kIn self tI) hus
    (codeAny_mono (F1.run _ X.stack _ _ ⟨Value.ref (hp.objs.size + 1) :: us, []⟩ (Value.ref (hp.objs.size + 1) :: us) _ _ (fun _ _ _ => False)
      (hr.make C us []) (I2.env0.make C us []) hbind r2 hq) fun r s' hq' => ?_))
  cases r with
  | error er => exact hx pins σ _ _ er s' I2 hq'
  | ok fl =>
    cases fl with
    | ret u =>
      obtain ⟨v, H2, J, rv, ev, q2⟩ := I2.after hq'
      subst ev
      exact ⟨rv, .ref (hp.objs.size + 1), H2, J, rfl, q2⟩
    | next => exact False.elim hq'
    | brk => exact False.elim hq'
    | cont => exact False.elim hq'

/-- C() of an own exception class without an __init__ -/
theorem pe_excV0 {x : Str} (F : ExcBaseFacts B newId initId tl) (q : PySem.W.excIn X.K C tl newId = true) (gC : X.mg x = some (.ref C))
    (kC : PySem.W.keepIn X.K (.ref C) = true) (hg : Gl X x) (hdb : (x == ("__debug__" : Str)) = false := by decide) :
    PE X (.Call (.Name x p) [] [] pos) (fun _ H Q => ∀ a, H a = none → Q (.ref a) (upd H a (exo a C none))) := by
  refine ⟨fun pins s σ H Q I h => ?_⟩
  refine wpAny_Call_Name_kw (ld_glob I hg gC ?_ hdb)
  refine PySem.W.callWith_K0 I.kIn kC ?_
  show wpAny _ _ (call (.ref C) []) _ _ _
  obtain ⟨bm, N, nm, qn, bs, hdct, sn, sub, ab, col, dd, k0, k1, k2, k3, k5, mN, hC, hN, hni, T⟩ := exc_obj I.kIn q
  refine wpAny_call_exc_subT F T hC hN hni (fun h' a hm => ?_) (by show 0 ≤ sizeLine; exact Nat.zero_le _)
  have hn : H a = none := I.hok.gone hm.new
  obtain ⟨t, ht, _, _⟩ := hm.there
  exact ⟨.ref a, upd H a (exo a C none), I.laidN hm.keeps hm.new hn (exo_ok ht), rfl, h a hn⟩

/-! ### asked for their kind, told their fields -/
/-- what isinstance and a field's look want to know of the class D -/
structure Xask (K : PySem.W.Frag) (D : Addr) : Prop where
  cl : (PySem.W.clsIn K D).isSome = true
  hd : PySem.W.hasDictIn K D = true
  ga : PySem.W.findIn K (.ref D) "__getattribute__" = some (some (.builtin "BaseException.__getattribute__"))
  gg : PySem.W.findIn K (.ref D) "__getattr__" = some none
  ex : PySem.W.subIn K (.ref D) (.type "BaseException") = some true
  cc : PySem.W.findIn K (.ref D) "__class__" = some (some (.builtin "object.__class__"))
  cg : PySem.W.specialIn K (.builtin "object.__class__") "__get__" = some (some (.builtin "getset_descriptor.__get__"))
  ck : PySem.W.takesIn K (.builtin "object.__class__") = some true
  ob : PySem.W.mroIn K D (.type "object") = some true
/-- an exception of D stands at a, with the fields fs -/
def ExAt (H : Hp) (a D : Addr) (fs : List (Str × V)) : Prop :=
  (H a = some (exo a D none) ∧ fs = []) ∨ ∃ dx, H a = some (exo a D (some dx)) ∧ H dx = some (exd dx fs)
theorem ExAt.at_ {D : Addr} {fs : List (Str × V)} (h : ExAt H a D fs) : ∃ d, H a = some (exo a D d) := by
  rcases h with ⟨h, _⟩ | ⟨dx, h, _⟩
  · exact ⟨_, h⟩
  · exact ⟨_, h⟩
theorem inst_at {D : Addr} {fs : List (Str × V)} (I : Inv X pins σ H s) (h : ExAt H a D fs) : ∃ ox od, PySem.W.InstAt s.heap a ox D od := by
  rcases h with ⟨h, _⟩ | ⟨dx, h, hd⟩
  · obtain ⟨t1, ho⟩ := exo_at I.hok h
    exact ⟨_, none, ho, rfl, rfl, True.intro⟩
  · obtain ⟨t1, ho⟩ := exo_at I.hok h
    obtain ⟨mA, hns, _⟩ := exd_at I.hok hd
    obtain ⟨od, hod, _⟩ := lookIn_ns hns
    exact ⟨_, some od, ho, rfl, rfl, hod⟩
/-- isinstance(e, c) -/
def rIsX (K : PySem.W.Frag) : List V → Hp → VK → Prop := fun xs H Q => ∃ (a D : Addr) (fs : List (Str × V)) (c : V) (cv : Value) (b : Bool),
  xs = [.ref a, c] ∧ ExAt H a D fs ∧ Xask K D ∧ ClsV c cv ∧ PySem.W.kitOne K (.ref D) cv = some b ∧ Q (.bl b) H
theorem call_isX : CallR X (.builtin "isinstance") (rIsX X.K) := by
  intro pins s σ H xs us Q I r h
  obtain ⟨a, D, fs, c, cv, b, rfl, hx, T, hcv, hk, q⟩ := h
  cases r with
  | cons rx rr =>
    cases rr with
    | cons rt rr =>
      cases rr
      cases rx
      have ec := hcv.eq rt
      subst ec
      obtain ⟨ox, od, J⟩ := inst_at I hx
      exact PySem.W.kia_one (PySem.W.kitx_exc T.cl T.ga T.gg T.ex T.cc T.cg T.ck T.ob) I.kIn J hk (fun z => nomatch z)
        fun tk => ⟨.bl b, H, I.kept (t' := tk) fun _ _ z => z, rfl, q⟩
/-- e.f -/
def tXget (K : PySem.W.Frag) (f : Str) (te : TE) : TE := fun σ H Q => te σ H fun x H1 => ∃ (a dx D : Addr) (fs : List (Str × V)) (v : V),
  x = .ref a ∧ H1 a = some (exo a D (some dx)) ∧ H1 dx = some (exd dx fs) ∧ Xask K D ∧ PySem.W.findIn K (.ref D) f = some none ∧ fs.lookup f = some v ∧ Q v H1
theorem pe_xget (he : PE X e te) (hb : attributeBase e f X.env (eval e X.env) = eval e X.env := by rfl) : PE X (.Attribute e f pos) (tXget X.K f te) := by
  refine ⟨fun pins s σ H Q I h => ?_⟩
  refine attr_of hb (thn (he.run pins s σ H _ I h) fun u s1 hh => ?_)
  obtain ⟨x, H1, I1, rx, a, dx, D, fs, v, ex, ea, ed, T, no, l, q⟩ := hh
  subst ex
  obtain rfl : u = Value.ref a := rx
  obtain ⟨t1, ho⟩ := exo_at I1.hok ea
  obtain ⟨mA, hns, hr⟩ := exd_at I1.hok ed
  obtain ⟨od, hod, hl⟩ := lookIn_ns hns
  obtain ⟨u, hu, ru⟩ := RelO.some_of (v := v) (o := mA f) (by rw [← l]; exact hr f)
  have J : PySem.W.InstAt s1.heap a { cls := .ref D, dict := some dx, data := .fields #[.ref t1, .none, .none, .none, .bool false, .none] } D (some od) :=
    ⟨ho, rfl, rfl, hod⟩
  exact HandSPX.exc_get I1.kIn J T.ga T.gg T.ex (PySem.W.findObj_own T.hd no rfl (by rw [hl, hu])) (handed_of ru) ⟨v, H1, I1.tok _, ru, q⟩
end
end L2.Vf
/-! Defs that are called where no repr is under way; repr of data. -/
namespace L2.Vf
open PySem PySem.Spec PyProof.Rows

/-- as FnOk, but only where nothing is guarded (no repr is under way) -/
structure FnG (P : Program) (w : World) (K : PySem.W.Frag) (mg : Str → Option Value) (base : Heap) (CX : CXT) (k : Nat) (f : Addr)
    (fd : FuncData) (ps : List Str) (sp : Sp) : Prop where
  len : ∀ vs H Q E, sp vs H Q E → vs.length = ps.length
  run : ∀ (A : Around) (outer : List Env) (s : Shared) (H : Hp) (args : Args) (us : List Value) (vs : List V) (Q : VK) (E : XK),
    A.guards = some [] → Room k A → Env0 P w K mg base A outer s H → BindsTo s fd args (ps.zip us) → Vals vs us → sp vs H Q E →
    codeAny (model P w) A (.call (.ref f) args) (CR CX outer P w H s Q E) s

section
variable {CX : CXT} {P : Program} {w : World} {K : PySem.W.Frag} {mg : Str → Option Value} {base : Heap} {k : Nat} {f : Addr}
theorem fn_ofG {name qual : Str} {params : Arguments} {body : List Stmt} {scope : Scope} {dV kV doc pm cdv ct oc : Value} {an od : Option Addr}
    {osl : Array (Option Value)} {N ps : List Str} {sp : Sp}
    (lk : K.lookup f = some ⟨oc, od, .func (PySem.W.fnOf name qual params body scope dV kV doc pm an cdv ct), osl⟩)
    (hcd : PySem.W.codeIn K cdv qual = true) (S : FnScope N ps scope) (len : ∀ vs H Q E, sp vs H Q E → vs.length = ps.length)
    (hbody : ∀ (A : Around) (outer : List Env) (s : Shared) (H : Hp) (vs : List V) (Q : VK) (E : XK), A.guards = some [] →
      Room k (A.deeper (envOfC qual scope s.heap.objs.size f cdv)) → sp vs H Q E →
      ∃ t, PSs (cxOf CX P w K mg base N qual scope f cdv A outer s H E) body t ∧ t { nx := fun _ H' => Q .non H', rt := Q } (start N vs) H) :
    FnG P w K mg base CX (k + 1) f (PySem.W.fnOf name qual params body scope dV kV doc pm an cdv ct) ps sp := by
  refine ⟨len, fun A outer s H args us vs Q E hgu hr e0 hb r hsp => ?_⟩
  have hl := len _ _ _ _ hsp
  have kIn : K.In s.heap := e0.mod.kin.keeps fun b o z => (e0.bs b o z).1
  have noLim : s.heap.NoLimit := e0.mod.nolimit.keeps fun b o z => (e0.bs b o z).1
  have kinds : ∀ y ∈ ps.zip us, scope.names.lookup y.1 = some .local ∨
      (scope.names.lookup y.1 = some .cell ∧ ((cellsFrom (s.heap.objs.size + 1) scope.names []).lookup y.1).isSome = true) := by
    rintro ⟨n, v⟩ hy
    rcases S.par n (List.of_mem_zip hy).1 with z | z
    · exact .inl z
    · exact .inr ⟨z, PySem.W.cellsFrom_some _ _ _ (.inl z)⟩
  refine codeAny_call_function hr.depth (kIn _ _ lk) rfl S.co S.gen rfl (PySem.W.codeRec_of kIn hcd) (hb _ _ _ _ ?_)
  refine wpAny_newFunctionEnv_cells S.kind kinds fun env he s1 x => ?_
  subst he
  refine ⟨noLim.keeps x.toInCall.keep, codeAny_func ?_⟩
  obtain ⟨t, ht, hq⟩ := hbody A outer s H vs Q E hgu (hr.deeper _) hsp
  have I : Inv (cxOf CX P w K mg base N qual scope f cdv A outer s H E) [] (start N vs) H s1 :=
    inv_start S hr.hd e0 hl r x
  refine wpAny_mono (ht.run [] s1 (start N vs) H _ I hq) (fun fl s' hs => ?_) fun e s' hs => hs
  cases fl with
  | ret u =>
    obtain ⟨v, σ', H', J, rv, z⟩ := hs
    exact ⟨v, H', J.os, J.bare, J.base, J.hok, rv, z⟩
  | next =>
    obtain ⟨σ', H', J, z⟩ := hs
    exact ⟨V.non, H', J.os, J.bare, J.base, J.hok, rfl, z⟩
  | brk =>
    obtain ⟨_, _, _, z⟩ := hs
    exact False.elim z
  | cont =>
    obtain ⟨_, _, _, z⟩ := hs
    exact False.elim z
theorem okG {x qual : Str} {st : Stmt} {fd : FuncData} {N ps : List Str} {sp : Sp} (F : Fun K x qual st f fd) (S : FnScope N ps (defScope st))
    (len : ∀ vs H Q E, sp vs H Q E → vs.length = ps.length)
    (hbody : ∀ (cdv : Value) (A : Around) (outer : List Env) (s : Shared) (H : Hp) (vs : List V) (Q : VK) (E : XK), A.guards = some [] →
      Room k (A.deeper (envOfC qual (defScope st) s.heap.objs.size f cdv)) → sp vs H Q E →
      ∃ t, PSs (cxOf CX0 P w K mg base N qual (defScope st) f cdv A outer s H E).nox (defBody st) t ∧
        t { nx := fun _ H' => Q .non H', rt := Q } (start N vs) H) : FnG P w K mg base CX0 (k + 1) f fd ps sp := by
  obtain ⟨oc, od, kV, doc, pm, an, cdv, ct, osl, rfl, lk, hcd⟩ := F.ex
  refine fn_ofG lk hcd S len fun A outer s H vs Q E hgu hr hsp => ?_
  obtain ⟨t, h, q⟩ := hbody cdv A outer s H vs Q E hgu hr hsp
  exact ⟨t, h.nox, q⟩
end
section
variable {X : Cx} {CX : CXT} {k : Nat} {f : Addr} {fd : FuncData} {ps : List Str} {sp : Sp} {E : XK} {x : Str} {p pos : Pos} {e : Expr} {es : List Expr} {t : TA}
theorem pe_callG (F : FnG X.prog X.w X.K X.mg X.base CX k f fd ps sp) (hgu : X.A.guards = some []) (hr : Room k X.A) (hg : Gl X x)
    (hm : X.mg x = some (.ref f)) (hk : PySem.W.keepIn X.K (.ref f) = true) (hb : Binds X.K fd ps []) (hx : Passes CX X E) (ha : PA X (e :: es) t)
    (hdb : (x == ("__debug__" : Str)) = false := by decide)
    (he : starEach (e :: es) X.env = (false, eval e X.env) :: starEach es X.env := by rfl)
    (hpl : (backTo pos (starEach es X.env)).any (·.1) = false := by rfl) :
    PE X (.Call (.Name x p) (e :: es) [] pos) (tCall sp [] E t) := by
  refine ⟨fun pins s σ H Q I h => ?_⟩
  refine wpAny_Call_Name_kw (ld_glob I hg hm ?_ hdb)
  refine PySem.W.callWith_K (h₀ := X.base) I.ok.mod.kin hk (thn (ha.run pos pins s σ H _ I h) fun us s1 hh => ?_) he hpl
  obtain ⟨vs, H1, I1, r, q⟩ := hh
  refine ⟨I1.kIn, ?_⟩
  have q' : sp vs H1 Q E := by
    have z : sp (vs ++ []) H1 Q E := q
    rw [List.append_nil] at z
    exact z
  have hl : us.length = ps.length := by
    rw [← r.length]
    exact F.len _ _ _ _ q'
  have b := hb s1 us I1.kIn (by rw [List.append_nil]; exact hl)
  rw [List.append_nil] at b
  show wpAny _ _ (call (.ref f) us) _ _ _
  refine wpAny_call (codeAny_mono (F.run X.A X.stack s1 H1 ⟨us, []⟩ us vs Q E hgu hr I1.env0 b r q') fun r s' hq => ?_)
  cases r with
  | error e => exact hx pins σ H1 s1 e s' I1 hq
  | ok fl =>
    cases fl with
    | ret u => exact I1.after hq
    | next => exact False.elim hq
    | brk => exact False.elim hq
    | cont => exact False.elim hq
end

/-- the law is called where nothing is guarded -/
theorem law_callG {P : Program} {w : World} {K : PySem.W.Frag} {mg mb : Str → Option Value} {k : Nat} {fa a : Addr} {fd : FuncData} {x : Str}
    {sp : Sp} {s₁ : Shared} {vs : List Value} {ns : List Int} (inK : K.In s₁.heap) (hns : s₁.heap.Ns mainGlobals mg)
    (hb : s₁.heap.Ns builtinsNs mb) (hbb : ∀ x : Str, x ≠ "__name__" → mb x = bootBuiltins x) (hlim : s₁.heap.NoLimit) (hg : s₁.gens = #[])
    (ha : s₁.heap.get? a = some { cls := .type "list", data := .seq vs.toArray }) (hi : IntsAre vs ns) (hl : ns.length ≤ sizeLine)
    (hr : Room k callerA)
    (F : ∀ base : Heap, K.In base → base.Ns mainGlobals mg → FnG P w K mg base CX0 k fa fd [x] sp)
    (hbind : ∀ (s : Shared) (u : Value), BindsTo s fd ⟨[u], []⟩ [(x, u)])
    (hsp : ∀ H : Hp, SqL K H a (ns.map V.int) → sp [.ref a] H (fun v _ => v = .bl true) fun _ _ _ => False) :
    codeAny (model P w) callerA (.call (.ref fa) ⟨[.ref a], []⟩)
      (fun r s' => r = .ok (.ret (.bool true)) ∧ OldK s₁.heap s'.heap ∧ s'.os = s₁.os ∧ AllBare s'.gens) s₁ := by
  have rv := vals_ints hi
  have lenV := hi.length
  have main : ∀ H : Hp, Only H → SqL K H a (ns.map V.int) → HOk P w H s₁.heap → (∀ b, H b ≠ none → b = a) →
      (H a ≠ none → K.lookup a = none) → codeAny (model P w) callerA (.call (.ref fa) ⟨[.ref a], []⟩)
      (fun r s' => r = .ok (.ret (.bool true)) ∧ OldK s₁.heap s'.heap ∧ s'.os = s₁.os ∧ AllBare s'.gens) s₁ := by
    intro H only seq ok onlyA notK
    have notDict : ∀ {b : Addr} {o : Obj} {es : Array DictEntry} {ep : Nat}, s₁.heap.get? b = some o → o.data = .dict es ep → H b = none := by
      intro b o es ep z d
      cases q : H b with
      | none => rfl
      | some u =>
        obtain rfl := onlyA b (by rw [q]; simp)
        rw [ha] at z
        cases z
        cases (show Data.seq vs.toArray _ = Data.dict es ep from d)
    have nsT : ∀ {b : Addr} {m : Str → Option Value}, s₁.heap.Ns b m → (hidT s₁.heap H).Ns b m := by
      rintro b m ⟨o, es, ep, z, d, r⟩
      exact ⟨o, es, ep, hidT_get z (notDict z d), d, r⟩
    have kT : K.In (hidT s₁.heap H) := fun b o z => hidT_get (inK b o z) (by
      cases q : H b with
      | none => rfl
      | some u =>
        obtain rfl := onlyA b (by rw [q]; simp)
        rw [notK (by rw [q]; simp)] at z
        cases z)
    have mod : Mod K mg (hidT s₁.heap H) := by
      obtain ⟨mc, h1, h2⟩ := hlim
      exact ⟨kT, nsT hns, ⟨mb, nsT hb, hbb⟩, ⟨mc, nsT h1, h2⟩⟩
    have env : Env0 P w K mg (hidT s₁.heap H) callerA [] s₁ H :=
      ⟨rfl, mod, fun b o z => of_hidT z, Nat.le_of_eq (hidT_size _ _), trivial, (fun b z => by cases z), ok, .of_eq hg⟩
    refine codeAny_mono ((F _ kT (nsT hns)).run callerA [] s₁ H ⟨[.ref a], []⟩ [.ref a] [.ref a] _ _ rfl hr env (hbind s₁ (.ref a))
      (.cons rfl .nil) (hsp H seq)) fun r s' h => ?_
    cases r with
    | error e => exact False.elim h
    | ok fl =>
      cases fl with
      | next => exact False.elim h
      | brk => exact False.elim h
      | cont => exact False.elim h
      | ret u =>
        obtain ⟨v, H', os, bare, un, ok', r', q⟩ := h
        obtain rfl : v = .bl true := q
        obtain rfl : u = Value.bool true := r'
        refine ⟨rfl, OldK.of_keep fun b o z => ?_, os, bare⟩
        cases q : H b with
        | none => exact un.keep b o z q (by intro y; cases y) (by simp)
        | some u =>
          rcases only b with y | ⟨ob, xs, y⟩
          · rw [q] at y
            cases y
          · obtain ⟨e1, _⟩ := ok b _ y
            obtain ⟨e2, _⟩ := ok' b _ (un.frzs b ob _ y)
            rw [z] at e1
            cases e1
            exact e2
  cases hk : K.lookup a with
  | some o =>
    have z := inK a o hk
    rw [ha] at z
    cases z
    refine main (fun _ => none) (fun _ => .inl rfl) (.inr ⟨_, vs.toArray, _, hk, rfl, rfl, rfl, ?_, ?_⟩) (fun b u y => ?_) (fun b y => absurd rfl y) fun y => absurd rfl y
    · rw [List.size_toArray, lenV]
      exact hl
    · simpa using rv
    · cases (show (none : Option HO) = some u from y)
  | none =>
    let T : Hp := fun b => if b = a then some (.frz { cls := .type "list", data := .seq vs.toArray } (.lst (ns.map V.int))) else none
    have at_ : T a = some (.frz { cls := .type "list", data := .seq vs.toArray } (.lst (ns.map V.int))) := if_pos rfl
    have off : ∀ {b : Addr}, b ≠ a → T b = none := fun z => if_neg z
    refine main T (fun b => ?_) (.inl (.inr ⟨_, at_⟩)) (fun b u z => ?_) (fun b z => ?_) fun _ => hk
    · by_cases h : b = a
      · rw [h]
        exact .inr ⟨_, _, at_⟩
      · exact .inl (off h)
    · by_cases h : b = a
      · subst h
        rw [at_] at z
        cases z
        exact ⟨ha, by rw [List.length_map]; exact hl, vs, _, rv, ha⟩
      · rw [off h] at z
        cases z
    · by_cases h : b = a
      · exact h
      · exact absurd (off h) z

/-- the law's end, by a promise that holds where nothing is guarded -/
theorem walk_ofG {l : PySem.W.OpenLaw} {n k : Nat} {q : Program} {loose : List Str} {XP : (Str → Option Value) → Heap → Prop}
    {YP : World → Heap → Prop} {d : DefRec} {K : Params → PySem.W.Frag} {sp : World → Sp} {x : Str}
    (hn : l.most = some n) (hn2 : n ≤ sizeLine) (hdf : d.params.defaults = []) (hr : Room k callerA)
    (hY : ∀ (w : World) (h : Heap), YP w h → (K w.params).In h)
    (F : ∀ (w : World) (mg : Str → Option Value) (fa : Addr) (h : Heap), (K w.params).In h → h.Ns mainGlobals mg → mg d.name = some (.ref fa) →
      ∃ fd : FuncData, (∀ (s : Shared) (u : Value), BindsTo s fd ⟨[u], []⟩ [(x, u)]) ∧
        ∀ base : Heap, (K w.params).In base → base.Ns mainGlobals mg → FnG l.prog w (K w.params) mg base CX0 k fa fd [x] (sp w))
    (hsp : ∀ (w : World) (H : Hp) (a : Addr) (ns : List Int), ns.length ≤ n → SqL (K w.params) H a (ns.map V.int) →
      sp w [.ref a] H (fun v _ => v = .bl true) fun _ _ _ => False) :
    PySem.W.WalkO q loose XP YP l.row.toRowW d [] (fun f vs => PySem.call f vs) := by
  refine Att.attach_call hn hdf fun w s₀ s₁ mg mb fa o pm cd doc a vs ns G Y ho hd hcd hmg hobj hints hlen hg => ?_
  have inK := hY w _ Y
  obtain ⟨fd, hb, hF⟩ := F w mg fa _ inK G.T.g hmg
  exact law_callG inK G.T.g G.T.b G.T.builtins G.T.nolimit hg hobj hints (Nat.le_trans hlen hn2) hr hF hb fun H hS => hsp w H a ns hlen hS
end L2.Vf
/-! What an expression gives, told by a property that stands while the heap only grows. -/
namespace L2.Vf
open PySem PySem.Spec PyProof.Rows
open Evl (Ex Ev EvL EvA)

/-- a property of a value that stands while the heap only grows -/
abbrev Pr := V → Hp → Prop
def Mono (P : Pr) : Prop := ∀ v H H', Ex H H' → P v H → P v H'
def EvP (te : TE) (σ : St) (H : Hp) (P : Pr) : Prop := ∀ H1, Ex H H1 → ∀ Q : VK, (∀ v H2, Ex H1 H2 → P v H2 → Q v H2) → te σ H1 Q
def AllP : List Pr → List V → Hp → Prop
  | [], [], _ => True
  | P :: Ps, v :: vs, H => P v H ∧ AllP Ps vs H
  | _, _, _ => False
theorem AllP.mono {H H' : Hp} (e : Ex H H') : ∀ {Ps : List Pr} {vs : List V}, (∀ P ∈ Ps, Mono P) → AllP Ps vs H → AllP Ps vs H'
  | [], [], _, _ => True.intro
  | P :: Ps, v :: vs, m, h => ⟨m P List.mem_cons_self v H H' e h.1, AllP.mono e (fun Q hQ => m Q (List.mem_cons_of_mem _ hQ)) h.2⟩
  | [], _ :: _, _, h => h.elim
  | _ :: _, [], _, h => h.elim
theorem AllP.len {H : Hp} : ∀ {Ps : List Pr} {vs : List V}, AllP Ps vs H → vs.length = Ps.length
  | [], [], _ => rfl
  | _ :: _, _ :: _, h => by
    rw [List.length_cons, List.length_cons, AllP.len h.2]
  | [], _ :: _, h => h.elim
  | _ :: _, [], h => h.elim
theorem AllP.app {H : Hp} : ∀ {Ps Qs : List Pr} {vs ws : List V}, AllP Ps vs H → AllP Qs ws H → AllP (Ps ++ Qs) (vs ++ ws) H
  | [], _, [], _, _, k => k
  | _ :: _, _, _ :: _, _, h, k => ⟨h.1, AllP.app h.2 k⟩
  | [], _, _ :: _, _, h, _ => h.elim
  | _ :: _, _, [], _, h, _ => h.elim
theorem AllP.get {H : Hp} : ∀ {Ps : List Pr} {vs : List V} {i : Nat} {P : Pr}, AllP Ps vs H → Ps[i]? = some P → ∃ v, vs[i]? = some v ∧ P v H
  | _ :: _, v :: _, 0, P, h, e => by
    obtain rfl := Option.some.inj e
    exact ⟨v, rfl, h.1⟩
  | _ :: _, _ :: _, i + 1, P, h, e => by
    obtain ⟨v, hv, hp⟩ := AllP.get (i := i) (P := P) h.2 (by simpa using e)
    exact ⟨v, by simpa using hv, hp⟩
  | [], _, _, _, _, e => by simp at e
  | _ :: _, [], _, _, h, _ => h.elim
def EvPs (ta : TA) (σ : St) (H : Hp) (Ps : List Pr) : Prop := ∀ H1, Ex H H1 → ∀ Q : List V → Hp → Prop, (∀ vs H2, Ex H1 H2 → AllP Ps vs H2 → Q vs H2) → ta σ H1 Q
/-- just this value -/
def is (x : V) : Pr := fun v _ => v = x
/-- a list of such, a tuple of such -/
def lstOf (Ps : List Pr) : Pr := fun v H => ∃ p vs, v = .ref p ∧ H p = some (.lst vs) ∧ AllP Ps vs H
def tupOf (Ps : List Pr) : Pr := fun v H => ∃ p vs, v = .ref p ∧ H p = some (.tup vs) ∧ AllP Ps vs H
theorem mono_is {x : V} : Mono (is x) := fun _ _ _ _ h => h
theorem mono_lstOf {Ps : List Pr} (m : ∀ P ∈ Ps, Mono P) : Mono (lstOf Ps) := by
  rintro v H H' e ⟨p, vs, rfl, h, k⟩
  exact ⟨p, vs, rfl, e _ _ h, k.mono e m⟩
theorem mono_tupOf {Ps : List Pr} (m : ∀ P ∈ Ps, Mono P) : Mono (tupOf Ps) := by
  rintro v H H' e ⟨p, vs, rfl, h, k⟩
  exact ⟨p, vs, rfl, e _ _ h, k.mono e m⟩
section
variable {K : PySem.W.Frag} {σ : St} {H H' : Hp} {ta : TA} {te tb tx : TE} {P R : Pr} {Ps : List Pr} {x : V}
theorem EvP.grow (e : Ex H H') (h : EvP te σ H P) : EvP te σ H' P := fun H1 a Q q => h H1 (e.trans a) Q q
theorem EvP.to (h : EvP te σ H P) (k : ∀ v H', Ex H H' → P v H' → R v H') : EvP te σ H R := fun H1 a Q q =>
  h H1 a Q fun v H2 b p => q v H2 b (k v H2 (a.trans b) p)
theorem evp_ev (h : Ev te σ H x) : EvP te σ H (is x) := fun H1 e Q q => h H1 e Q fun H2 e2 => q x H2 e2 rfl
theorem evp_var {i : Nat} (h : σ[i]? = some (some x)) : EvP (tVar i) σ H (is x) := evp_ev (Evl.ev_var h)
theorem evp_c : EvP (tC x) σ H (is x) := evp_ev Evl.ev_c
theorem evs_nil : EvPs tNil σ H [] := fun H1 _ Q q => q [] H1 (Ex.refl H1) True.intro
theorem evs_cons (h : EvP te σ H P) (m : Mono P) (hr : EvPs ta σ H Ps) : EvPs (tCons te ta) σ H (P :: Ps) := fun H1 e Q q =>
  h H1 e _ fun v H2 e2 p => hr H2 (e.trans e2) _ fun vs H3 e3 k => q (v :: vs) H3 (e2.trans e3) ⟨m v H2 H3 e3 p, k⟩
theorem evp_lst (h : EvPs ta σ H Ps) (m : ∀ P ∈ Ps, Mono P) (hl : Ps.length ≤ 1000) : EvP (tLst ta) σ H (lstOf Ps) := fun H1 e Q q =>
  h H1 e _ fun vs H2 e2 k => ⟨Nat.le_of_lt (small1000 (by rw [k.len]; exact hl)), fun p hp =>
    q (.ref p) _ (e2.trans (Ex.new hp)) ⟨p, vs, rfl, upd_same, k.mono (Ex.new hp) m⟩⟩
theorem evp_tup (h : EvPs ta σ H Ps) (m : ∀ P ∈ Ps, Mono P) (hl : Ps.length ≤ 1000) : EvP (tTup ta) σ H (tupOf Ps) := fun H1 e Q q =>
  h H1 e _ fun vs H2 e2 k => ⟨Nat.le_of_lt (small1000 (by rw [k.len]; exact hl)), fun p hp =>
    q (.ref p) _ (e2.trans (Ex.new hp)) ⟨p, vs, rfl, upd_same, k.mono (Ex.new hp) m⟩⟩
/-- xs + ys -/
theorem evp_cat {Qs : List Pr} (ha : EvP te σ H (lstOf Ps)) (hb : EvP tb σ H (lstOf Qs)) (m1 : ∀ P ∈ Ps, Mono P) (m2 : ∀ P ∈ Qs, Mono P)
    (hl : Ps.length + Qs.length ≤ 1000) : EvP (tOp rCat te tb) σ H (lstOf (Ps ++ Qs)) := fun H1 e Q q => by
  refine ha H1 e _ fun v H2 e2 hv => hb H2 (e.trans e2) _ fun w H3 e3 hw => ?_
  obtain ⟨p, vs, rfl, hp, kp⟩ := mono_lstOf m1 v H2 H3 e3 hv
  obtain ⟨r, ws, rfl, hr, kr⟩ := hw
  refine ⟨p, r, vs, ws, rfl, rfl, hp, hr, ?_, fun t ht => q _ _ ((e2.trans e3).trans (Ex.new ht)) ⟨t, vs ++ ws, rfl, upd_same, ?_⟩⟩
  · rw [kp.len, kr.len]
    exact Nat.le_of_lt (small1000 hl)
  · exact (kp.app kr).mono (Ex.new ht) fun P hP => by
      rcases List.mem_append.mp hP with z | z
      · exact m1 P z
      · exact m2 P z
end
section
variable {K : PySem.W.Frag} {σ : St} {H H' : Hp} {ta : TA} {te tb tx : TE} {P R : Pr} {Ps : List Pr} {x : V} {C : Addr} {f : Str}
theorem evp_held {i : Nat} (h : σ[i]? = some (some x)) (p : P x H) (m : Mono P) : EvP (tVar i) σ H P := fun H1 e Q q =>
  ⟨x, h, q x H1 (Ex.refl H1) (m x H H1 e p)⟩
theorem allP_is : ∀ {xs vs : List V} {H : Hp}, AllP (xs.map is) vs H → vs = xs
  | [], [], _, _ => rfl
  | x :: xs, v :: vs, _, h => by
    rw [allP_is h.2, show v = x from h.1]
  | [], _ :: _, _, h => h.elim
  | _ :: _, [], _, h => h.elim
/-! ### exceptions -/
def exOf0 (C : Addr) : Pr := fun v H => ∃ a, v = .ref a ∧ H a = some (exo a C none)
def exOf1 (C : Addr) (f : Str) (P : Pr) : Pr := fun v H => ∃ a dx y, v = .ref a ∧ H a = some (exo a C (some dx)) ∧ H dx = some (exd dx [(f, y)]) ∧ P y H
theorem mono_ex0 : Mono (exOf0 C) := by
  rintro v H H' e ⟨a, rfl, h⟩
  exact ⟨a, rfl, e _ _ h⟩
theorem mono_ex1 (m : Mono P) : Mono (exOf1 C f P) := by
  rintro v H H' e ⟨a, dx, y, rfl, h, k, p⟩
  exact ⟨a, dx, y, rfl, e _ _ h, e _ _ k, m _ _ _ e p⟩
theorem exOf0.at_ {v : V} (h : exOf0 C v H) : ∃ a, v = .ref a ∧ ExAt H a C [] := by
  obtain ⟨a, rfl, h⟩ := h
  exact ⟨a, rfl, .inl ⟨h, rfl⟩⟩
theorem exOf1.at_ {v : V} (h : exOf1 C f P v H) : ∃ a y, v = .ref a ∧ ExAt H a C [(f, y)] := by
  obtain ⟨a, dx, y, rfl, h, k, _⟩ := h
  exact ⟨a, y, rfl, .inr ⟨dx, h, k⟩⟩
theorem ExAt.mono {a D : Addr} {fs : List (Str × V)} (e : Ex H H') (h : ExAt H a D fs) : ExAt H' a D fs := by
  rcases h with ⟨h, rfl⟩ | ⟨dx, h, k⟩
  · exact .inl ⟨e _ _ h, rfl⟩
  · exact .inr ⟨dx, e _ _ h, e _ _ k⟩
theorem evp_ex0 : EvP (fun _ H Q => ∀ a, H a = none → Q (.ref a) (upd H a (exo a C none))) σ H (exOf0 C) := fun H1 _ Q q a n =>
  q _ _ (Ex.new n) ⟨a, rfl, upd_same⟩
theorem ev_isx {a D d : Addr} {fs : List (Str × V)} {b : Bool} (ha : Ev te σ H (.ref a)) (hx : ExAt H a D fs) (T : Xask K D)
    (hk : PySem.W.kitOne K (.ref D) (.ref d) = some b) : Ev (tCB (rIsX K) (tCons te (tCons (tC (.ref d)) tNil))) σ H (.bl b) := fun H1 e Q q =>
  ha H1 e _ fun H2 e2 => ⟨a, D, fs, .ref d, .ref d, b, rfl, hx.mono (e.trans e2), T, .own d, hk, q H2 e2⟩
theorem ev_isxT {a D : Addr} {n : String} {fs : List (Str × V)} {b : Bool} (ha : Ev te σ H (.ref a)) (hx : ExAt H a D fs) (T : Xask K D)
    (hk : PySem.W.kitOne K (.ref D) (.type n) = some b) : Ev (tCB (rIsX K) (tCons te (tCons (tC (.ty n)) tNil))) σ H (.bl b) := fun H1 e Q q =>
  ha H1 e _ fun H2 e2 => ⟨a, D, fs, .ty n, .type n, b, rfl, hx.mono (e.trans e2), T, .ty n, hk, q H2 e2⟩
end
/-- a while whose end is told once -/
theorem while_e {c : TT} {tb : TS} {D : Ends} {σ : St} {H : Hp} (Pv Pe : St → Hp → Prop) (μ : St → Hp → Nat) (h0 : Pv σ H)
    (hs : ∀ σ H, Pv σ H → c σ H fun b H1 => if b = true then tb { D with nx := fun σ' H' => Pv σ' H' ∧ μ σ' H' < μ σ H, ct := fun σ' H' => Pv σ' H' ∧ μ σ' H' < μ σ H, bk := D.nx } σ H1 else Pe σ H1)
    (he : ∀ σ H, Pe σ H → D.nx σ H) (mono : ∀ σ H Q Q', (∀ b H1, Q b H1 → Q' b H1) → c σ H Q → c σ H Q') : tWhile c tb D σ H := by
  refine while_by Pv μ h0 (fun σ1 H1 h => mono _ _ _ _ (fun b H2 z => ?_) (hs σ1 H1 h)) mono
  cases b with
  | true => exact z
  | false =>
    have z' : Pe σ1 H2 := by
      rw [if_neg Bool.false_ne_true] at z
      exact z
    exact iteF (he _ _ z')
end L2.Vf
/-! Data with dicts in it, and its repr. -/
namespace L2.Vf
open PySem PySem.Spec PyProof.Rows
open Evl (Ex Ev EvL EvA)

def kDat : Key → PyData
  | .inl i => .int i
  | .inr x => .str x
mutual
inductive Dq (K : PySem.W.Frag) (H : Hp) : V → PyData → Prop
  | non : Dq K H .non .none
  | bl (b : Bool) : Dq K H (.bl b) (.bool b)
  | int (i : Int) : Dq K H (.int i) (.int i)
  | str (x : Str) : Dq K H (.str x) (.str x)
  | lst {a : Addr} {xs : List V} {ds : List PyData} : a ≠ sysModules → SqL K H a xs → DqAll K H xs ds → Dq K H (.ref a) (.list ds)
  | tup {a : Addr} {xs : List V} {ds : List PyData} : SqT K H a xs → DqAll K H xs ds → Dq K H (.ref a) (.tuple ds)
  | dct {a : Addr} {kvs : List (Key × V)} {es : List (PyData × PyData)} : H a = some (.dK kvs) → DqKv K H kvs es → Dq K H (.ref a) (.dict es)
inductive DqAll (K : PySem.W.Frag) (H : Hp) : List V → List PyData → Prop
  | nil : DqAll K H [] []
  | cons {v : V} {vs : List V} {d : PyData} {ds : List PyData} : Dq K H v d → DqAll K H vs ds → DqAll K H (v :: vs) (d :: ds)
inductive DqKv (K : PySem.W.Frag) (H : Hp) : List (Key × V) → List (PyData × PyData) → Prop
  | nil : DqKv K H [] []
  | cons {k : Key} {v : V} {kvs : List (Key × V)} {d : PyData} {es : List (PyData × PyData)} : Dq K H v d → DqKv K H kvs es → DqKv K H ((k, v) :: kvs) ((kDat k, d) :: es)
end
mutual
theorem Dq.mono {K : PySem.W.Frag} {H H' : Hp} (e : Ex H H') : ∀ (d : PyData) (v : V), Dq K H v d → Dq K H' v d
  | .none, _, h => by cases h; exact .non
  | .bool b, _, h => by cases h; exact .bl b
  | .int i, _, h => by cases h; exact .int i
  | .str x, _, h => by cases h; exact .str x
  | .list ds, _, h => by
    cases h with
    | lst hn hs ha => exact .lst hn (Evl.ex_l e hs) (DqAll.mono e ds _ ha)
  | .tuple ds, _, h => by
    cases h with
    | tup hs ha => exact .tup (Evl.ex_t e hs) (DqAll.mono e ds _ ha)
  | .dict es, _, h => by
    cases h with
    | dct hs ha => exact .dct (e _ _ hs) (DqKv.mono e es _ ha)
theorem DqAll.mono {K : PySem.W.Frag} {H H' : Hp} (e : Ex H H') : ∀ (ds : List PyData) (vs : List V), DqAll K H vs ds → DqAll K H' vs ds
  | [], _, h => by cases h; exact .nil
  | d :: ds, _, h => by
    cases h with
    | cons h1 h2 => exact .cons (Dq.mono e d _ h1) (DqAll.mono e ds _ h2)
theorem DqKv.mono {K : PySem.W.Frag} {H H' : Hp} (e : Ex H H') : ∀ (es : List (PyData × PyData)) (kvs : List (Key × V)), DqKv K H kvs es → DqKv K H' kvs es
  | [], _, h => by cases h; exact .nil
  | (_, d) :: es, _, h => by
    cases h with
    | cons h1 h2 => exact .cons (Dq.mono e d _ h1) (DqKv.mono e es _ h2)
end
section
variable {X : Cx} {pins : List (Addr × Obj)} {σ : St} {H : Hp} {s : Shared}
theorem reads_kv {kvs : List (Key × V)} {vs : List (Key × Value)} {es : List DictEntry} (r : KV kvs vs) (p : Pairs (mixKind X.prog X.w) es vs) :
    ReadsAll s.heap (es.map (·.key)) (kvs.map fun q => kDat q.1) [] ∧ Vals (kvs.map (·.2)) (es.map (·.val)) := by
  induction p generalizing kvs with
  | nil =>
    cases r
    exact ⟨.nil, .nil⟩
  | @cons e kv es vs h1 h2 _ ih =>
    cases r with
    | @cons q _ qs _ hq hr =>
      obtain ⟨z1, z2⟩ := ih hr
      have hk : Reads s.heap e.key (kDat q.1) [] := by
        rw [hq.1]
        rcases keyIs_shape h1 with ⟨i, t, e1, e2⟩ | ⟨x, t, e1, e2⟩
        · rw [e1, e2]
          exact .int i t
        · rw [e1, e2]
          exact .str x t
      exact ⟨.cons hk z1, 
        .cons (by show RelV q.2 e.val; rw [h2]; exact hq.2) z2⟩
mutual
theorem Dq.reads (I : Inv X pins σ H s) : ∀ (d : PyData) (v : V) (u : Value), Dq X.K H v d → RelV v u → ∃ as, Reads s.heap u d as ∧ sysModules ∉ as
  | .none, _, _, h, r => by
    cases h
    cases r
    exact ⟨_, .none, by simp⟩
  | .bool b, _, _, h, r => by
    cases h
    cases r
    exact ⟨_, .bool b, by simp⟩
  | .int i, _, _, h, r => by
    cases h
    obtain ⟨t, rfl⟩ := r
    exact ⟨_, .int i t, by simp⟩
  | .str x, _, _, h, r => by
    cases h
    obtain ⟨t, rfl⟩ := r
    exact ⟨_, .str x t, by simp⟩
  | .list ds, _, _, h, r => by
    cases h with
    | lst na hq ha =>
      cases r
      obtain ⟨its, rv, ⟨o, n, ho, hc, _, hd⟩, _⟩ := I.list hq
      obtain ⟨as, hr, hn⟩ := DqAll.reads I ds _ its ha rv
      refine ⟨_, Reads.list ho hc hd hr, fun z => ?_⟩
      rcases List.mem_cons.mp z with z | z
      · exact na z.symm
      · exact hn z
  | .tuple ds, _, _, h, r => by
    cases h with
    | tup hq ha =>
      cases r
      obtain ⟨its, rv, ⟨o, ho, hc, n, hd⟩, _⟩ := I.tuple hq
      obtain ⟨as, hr, hn⟩ := DqAll.reads I ds _ its ha rv
      exact ⟨_, Reads.tuple ho hc hd hr, hn⟩
  | .dict es, _, _, h, r => by
    cases h with
    | dct hq ha =>
      cases r
      obtain ⟨_, hne, vs, rel, ⟨o, ds, ep, ho, hx, hd, _, hp, _⟩⟩ := dk_of I.hok hq
      obtain ⟨z1, z2⟩ := reads_kv rel hp
      obtain ⟨k1, as, k2, hn⟩ := DqKv.reads I es _ _ ha z2
      rw [k1] at z1
      refine ⟨_, Reads.dict ho hx.1 hd z1 k2, fun z => ?_⟩
      rcases List.mem_append.mp z with z | z
      · rcases List.mem_cons.mp z with z | z
        · rw [z] at hne
          exact absurd hne (by simp)
        · cases z
      · exact hn z
theorem DqAll.reads (I : Inv X pins σ H s) : ∀ (ds : List PyData) (vs : List V) (us : List Value), DqAll X.K H vs ds → Vals vs us →
    ∃ as, ReadsAll s.heap us ds as ∧ sysModules ∉ as
  | [], _, _, h, r => by
    cases h
    cases r
    exact ⟨_, .nil, by simp⟩
  | d :: ds, _, _, h, r => by
    cases h with
    | cons h1 h2 =>
      cases r with
      | cons r1 r2 =>
        obtain ⟨as, q1, n1⟩ := Dq.reads I d _ _ h1 r1
        obtain ⟨bs, q2, n2⟩ := DqAll.reads I ds _ _ h2 r2
        refine ⟨_, .cons q1 q2, fun z => ?_⟩
        rcases List.mem_append.mp z with z | z
        · exact n1 z
        · exact n2 z
theorem DqKv.reads (I : Inv X pins σ H s) : ∀ (es : List (PyData × PyData)) (kvs : List (Key × V)) (us : List Value), DqKv X.K H kvs es →
    Vals (kvs.map (·.2)) us → (kvs.map fun q => kDat q.1) = es.map (·.1) ∧ ∃ as, ReadsAll s.heap us (es.map (·.2)) as ∧ sysModules ∉ as
  | [], _, _, h, r => by
    cases h
    cases r
    exact ⟨rfl, _, .nil, by simp⟩
  | (k, d) :: es, _, _, h, r => by
    cases h with
    | cons h1 h2 =>
      cases r with
      | cons r1 r2 =>
        obtain ⟨as, q1, n1⟩ := Dq.reads I d _ _ h1 r1
        obtain ⟨e1, bs, q2, n2⟩ := DqKv.reads I es _ _ h2 r2
        refine ⟨by rw [List.map_cons, List.map_cons, e1], _, .cons q1 q2, fun z => ?_⟩
        rcases List.mem_append.mp z with z | z
        · exact n1 z
        · exact n2 z
end
/-- repr of a list, a tuple, a dict -/
def rRepr (K : PySem.W.Frag) : List V → Hp → VK → Prop := fun xs H Q => ∃ (a : Addr) (d : PyData), xs = [.ref a] ∧ Dq K H (.ref a) d ∧
  d.showable = true ∧ d.depth ≤ 50 ∧ d.shown.length ≤ sizeLine ∧ Q (.str d.shown) H
theorem call_repr (hg : X.A.guards = some []) (hu : X.A.units + 100 < cLine) : CallR X (.builtin "repr") (rRepr X.K) := by
  intro pins s σ H xs us Q I r h
  obtain ⟨a, d, rfl, hd, sh, dp, sz, q⟩ := h
  cases r with
  | cons rx rr =>
    cases rr
    obtain rfl := rx
    obtain ⟨as, hr, hn⟩ := Dq.reads I d _ _ hd rfl
    refine repr_of_reads' hr sh (fun _ => hn) hg (by omega) (fun _ _ z => z) (fun h' u tk hk => ?_) sz
    exact ⟨.str d.shown, H, I.kept (t' := tk) hk, ⟨u, rfl⟩, q⟩
/-! ### new lists, with the word that they are not the module table -/
def tLstN (t : TA) : TE := fun σ H Q => t σ H fun xs H1 => xs.length ≤ sizeLine ∧ ∀ p, H1 p = none → p ≠ sysModules → Q (.ref p) (upd H1 p (.lst xs))
theorem pe_lstN {es : List Expr} {t : TA} {pos : Pos} (h : PA X es t) : PE X (.List es pos) (tLstN t) := by
  refine ⟨fun pins s σ H Q I hq => ?_⟩
  refine wpAny_List_spliced (thn (h.run pos pins s σ H _ I hq) fun us s1 hh => ?_)
  obtain ⟨xs, H1, I1, r, z, q⟩ := hh
  refine ⟨by rw [← r.length]; exact z, .ref _, _, I1.lnew (t' := s1.toks) r z, rfl, q _ I1.fresh ?_⟩
  exact Nat.ne_of_gt I1.big
def rRepN : R2 := fun x y H Q => ∃ l k xs, x = .ref l ∧ y = .int k ∧ H l = some (.lst xs) ∧ -(2 ^ 63) ≤ k ∧ k < 2 ^ 63 ∧
  xs.length * k.toNat ≤ sizeLine ∧ ∀ p, H p = none → p ≠ sysModules → Q (.ref p) (upd H p (.lst (List.replicate k.toNat xs).flatten))
theorem op_repN : OpR X (binaryOp .Mult) rRepN := by
  intro pins s σ H x y v u Q I rx ry h
  obtain ⟨l, k, xs, rfl, rfl, hl0, lo, hi, hz, q⟩ := h
  obtain ⟨t, rfl⟩ := ry
  obtain rfl := rx
  obtain ⟨z, its, n, r, hl, e⟩ := I.lstM hl0
  have room : its.toArray.size * k.toNat ≤ sizeLine := by
    rw [List.size_toArray, ← hl]
    exact hz
  have cap : ¬ its.toArray.size * k.toNat > (2 ^ 63 - 1) / 8 := by
    have line : (sizeLine : Nat) ≤ (2 ^ 63 - 1) / 8 := by decide
    omega
  have fits : ¬ (!Builtin.List.listFitsIndex k) = true := by
    rw [fitsIndex_both lo hi]
    decide
  have long : ¬ Builtin.List.listTooLong (its.toArray.size * k.toNat) = true := by
    rw [notLongL room]
    decide
  have plain : ∀ m : Nat, List.foldl (fun x1 x2 => x1 ++ x2) #[] (List.replicate m its.toArray) = (List.replicate m its).flatten.toArray := by
    intro m
    have z := foldl_rep its m []
    rwa [List.nil_append] at z
  have made : List.foldl (fun x1 x2 => x1 ++ x2) #[] (List.replicate (if its.toArray.isEmpty = true then 0 else k.toNat) its.toArray) =
      (List.replicate k.toNat its).flatten.toArray := by
    rw [plain]
    cases its with
    | nil => simp
    | cons a r' => rw [if_neg (by simp)]
  refine wpAny_binaryOp_repeat_ref (T := "list") (U := "int") (by decide) ⟨_, e, rfl⟩ (fun s' => typeIs_int s' k t) noFill_list_mul
    F.fills_int_mul F.slot_int_rmul repeat_list F.slot_int_index.lookup ?_
  refine call_meets F.slot_int_rmul (typeIs_int s k t) F.entry_int_rmul (F.args_int_rmul_2 _ _)
    (int___rmul___int_list k t l its.toArray n) ⟨e, rfl, ⟨_, e, rfl⟩, ?_⟩
  refine call_meets F.slot_list_mul ⟨_, e, rfl⟩ F.entry_list_mul (F.args_list_mul_2 _ _)
    (AutoListH.list___mul___list_int_3 l its.toArray n k t fits cap long) ⟨e, ?_⟩
  rw [made]
  refine ⟨.ref _, _, I.lnew (t' := s.toks) (r.rep k.toNat) ?_, rfl, q _ I.fresh (Nat.ne_of_gt I.big)⟩
  rw [PyProof.Rows.lm_len_rep_flat, Nat.mul_comm]
  exact hz

/-! ### the written part by its name, for what stands within a comprehension -/
theorem call_lenK {K : PySem.W.Frag} (hK : X.K = K := by rfl) : CallR X (.builtin "len") (Evl.rLenS K) := by
  subst hK
  exact call_len_seq
theorem ix_listK {K : PySem.W.Frag} (hK : X.K = K := by rfl) : IxR X (rIxL K) := by
  subst hK
  exact ix_list
theorem ix_tupK {K : PySem.W.Frag} (hK : X.K = K := by rfl) : IxR X (rIxT K) := by
  subst hK
  exact ix_tup
theorem call_isXK {K : PySem.W.Frag} (hK : X.K = K := by rfl) : CallR X (.builtin "isinstance") (rIsX K) := by
  subst hK
  exact call_isX
/-- a text times an int -/
theorem op_mulS : OpR X (binaryOp .Mult) (fun x y H Q => ∃ (z : Str) (n : Int), x = .str z ∧ y = .int n ∧ MulOk z n ∧ Q (.str (Txt.mul z n)) H) := by
  intro pins s σ H x y v u Q I rx ry h
  obtain ⟨z, n, rfl, rfl, hz, q⟩ := h
  obtain ⟨t, rfl⟩ := rx
  obtain ⟨t', rfl⟩ := ry
  exact SB.mul hz fun t2 k => ⟨.str (Txt.mul z n), H, I.kept (t' := k) fun _ _ z => z, ⟨t2, rfl⟩, q⟩
end
end L2.Vf
/-! Fields, places, new lists that may be shown: what they give. -/
namespace L2.Vf
open PySem PySem.Spec PyProof.Rows
open Evl (Ex Ev EvT EvL EvA)
theorem units100 {k : Nat} {A : Around} (r : Room k A) : A.units + 100 < cLine := by have := r.un; omega
section
variable {K : PySem.W.Frag} {σ : St} {H H' : Hp} {ta : TA} {te tb tx : TE} {P R : Pr} {Ps : List Pr} {x : V} {C : Addr} {f : Str} {D : Ends} {i : Nat} {u : TS}
theorem set_go (h : EvP te σ H P) (k : ∀ v H2, Ex H H2 → P v H2 → u D (σ.set i (some v)) H2) : tSeq (tAsg te (gName i)) u D σ H := h H (Ex.refl H) _ k
theorem ret_go (h : EvP te σ H P) (k : ∀ v H2, Ex H H2 → P v H2 → D.rt v H2) : tRet te D σ H := h H (Ex.refl H) _ k
theorem if_go {tt : TT} {tu tv : TS} {b : Bool} (h : EvT tt σ H b) (k1 : ∀ H2, Ex H H2 → b = true → tu D σ H2) (k2 : ∀ H2, Ex H H2 → b = false → tv D σ H2) : tIfS tt tu tv D σ H :=
  h H (Ex.refl H) _ fun H2 e2 => by
    cases b with
    | true => exact k1 H2 e2 rfl
    | false => exact k2 H2 e2 rfl
theorem ev_of (h : EvP te σ H (is x)) : Ev te σ H x := fun H1 e Q q => h H1 e Q fun v H2 e2 hv => by
  obtain rfl : v = x := hv
  exact q H2 e2
/-- the i-th of a list -/
theorem evp_at {j : Nat} (h : EvP te σ H (lstOf Ps)) (e : Ps[j]? = some P) : EvP (tOp (rIxL K) te (tC (.int (j : Int)))) σ H P := fun H1 e1 Q q =>
  h H1 e1 _ fun v H2 e2 hv => by
    obtain ⟨p, vs, rfl, hp, hk⟩ := hv
    obtain ⟨y, hy, py⟩ := hk.get e
    exact ⟨p, vs, (j : Int), y, rfl, rfl, SqL.of hp, atI_nat hy, q y H2 e2 py⟩
/-- e.f, e a held exception -/
theorem evp_fld (h : EvP te σ H (exOf1 C f P)) (T : Xask K C) (no : PySem.W.findIn K (.ref C) f = some none) : EvP (tXget K f te) σ H P := fun H1 e1 Q q =>
  h H1 e1 _ fun v H2 e2 hv => by
    obtain ⟨a, dx, y, rfl, h1, h2, py⟩ := hv
    exact ⟨a, dx, C, [(f, y)], y, rfl, h1, h2, T, no, by simp [List.lookup], q y H2 e2 py⟩
/-- a new list that is not the module table -/
def lstN (Ps : List Pr) : Pr := fun v H => ∃ p vs, v = .ref p ∧ p ≠ sysModules ∧ H p = some (.lst vs) ∧ AllP Ps vs H
theorem mono_lstN (m : ∀ P ∈ Ps, Mono P) : Mono (lstN Ps) := by
  rintro v H H' e ⟨p, vs, rfl, n, h, k⟩
  exact ⟨p, vs, rfl, n, e _ _ h, k.mono e m⟩
theorem evp_lstN (h : EvPs ta σ H Ps) (m : ∀ P ∈ Ps, Mono P) (hl : Ps.length ≤ 1000) : EvP (tLstN ta) σ H (lstN Ps) := fun H1 e Q q =>
  h H1 e _ fun vs H2 e2 k => ⟨Nat.le_of_lt (small1000 (by rw [k.len]; exact hl)), fun p hp n =>
    q (.ref p) _ (e2.trans (Ex.new hp)) ⟨p, vs, rfl, n, upd_same, k.mono (Ex.new hp) m⟩⟩
theorem allP_rep {v : V} (h : P v H) : ∀ n, AllP (List.replicate n P) (List.replicate n [v]).flatten H
  | 0 => True.intro
  | n + 1 => ⟨h, allP_rep h n⟩
/-- [x] * n -/
theorem evp_repN {n : Nat} (h : EvP te σ H (lstN [P])) (m : Mono P) (hn : n ≤ 1000) : EvP (tOp rRepN te (tC (.int (n : Int)))) σ H (lstN (List.replicate n P)) := fun H1 e1 Q q =>
  h H1 e1 _ fun v H2 e2 hv => by
    obtain ⟨p, vs, rfl, np, hp, hk⟩ := hv
    obtain ⟨y, rfl, py⟩ : ∃ y, vs = [y] ∧ P y H2 := by
      cases vs with
      | nil => exact hk.elim
      | cons y r =>
        cases r with
        | nil => exact ⟨y, rfl, hk.1⟩
        | cons _ _ => exact hk.2.elim
    refine ⟨p, (n : Int), [y], rfl, rfl, hp, by omega, by omega, ?_, fun r hr nr => q (.ref r) _ (e2.trans (Ex.new hr)) ⟨r, _, rfl, nr, upd_same, ?_⟩⟩
    · show [y].length * (n : Int).toNat ≤ sizeLine
      have := small1000 hn
      simp
      omega
    · rw [Int.toNat_natCast]
      exact allP_rep (m y H2 _ (Ex.new hr) py) n
/-- tuple(l), l a list or a tuple -/
def rTupOf (K : PySem.W.Frag) : List V → Hp → VK → Prop := fun zs H Q => ∃ p ys, zs = [.ref p] ∧ ((SqL K H p ys ∧ ∀ l, H l = none → Q (.ref l) (upd H l (.tup ys))) ∨ (SqT K H p ys ∧ Q (.ref p) H))
theorem evp_tupOf {l : Addr} {xs : List V} (h : EvP te σ H (is (.ref l))) (hl : SqL K H l xs ∨ SqT K H l xs) :
    EvP (tCB (rTupOf K) (tCons te tNil)) σ H (fun v H => ∃ t, v = .ref t ∧ SqT K H t xs) := fun H1 e1 Q q => by
  exact h H1 e1 _ fun v H2 e2 hv => by
    obtain rfl : v = .ref l := hv
    refine ⟨l, xs, rfl, ?_⟩
    rcases hl with hl | hl
    · exact .inl ⟨Evl.ex_l (e1.trans e2) hl, fun t ht => q _ _ (e2.trans (Ex.new ht)) ⟨t, rfl, SqT.of upd_same⟩⟩
    · exact .inr ⟨Evl.ex_t (e1.trans e2) hl, q _ _ e2 ⟨l, rfl, Evl.ex_t (e1.trans e2) hl⟩⟩
/-- data that can be shown -/
def okB (d : PyData) : Bool := d.showable && decide (d.depth ≤ 50) && decide (d.shown.length ≤ 10000)
theorem evp_repr {d : PyData} (h : EvP te σ H (lstN Ps)) (hd : ∀ v H2, Ex H H2 → lstN Ps v H2 → Dq K H2 v d) (ok : okB d = true) : EvP (tCB (rRepr K) (tCons te tNil)) σ H (is (.str d.shown)) := fun H1 e1 Q q =>
  h H1 e1 _ fun v H2 e2 hv => by
    obtain ⟨p, vs, rfl, rest⟩ := hv
    unfold okB at ok
    simp only [Bool.and_eq_true, decide_eq_true_eq] at ok
    obtain ⟨⟨o1, o2⟩, o3⟩ := ok
    exact ⟨p, d, rfl, hd _ _ (e1.trans e2) ⟨p, vs, rfl, rest⟩, o1, o2, Nat.le_trans o3 (by decide), q _ H2 e2 rfl⟩
/-- all of them hold data -/
def DsOf (K : PySem.W.Frag) (H : Hp) : List Pr → List PyData → Prop
  | [], [] => True
  | P :: Ps, d :: ds => (∀ v, P v H → Dq K H v d) ∧ DsOf K H Ps ds
  | _, _ => False
theorem dqAll_of : ∀ {Ps : List Pr} {vs : List V} {ds : List PyData} {H : Hp}, AllP Ps vs H → DsOf K H Ps ds → DqAll K H vs ds
  | [], [], [], _, _, _ => .nil
  | _ :: _, _ :: _, _ :: _, _, h, g => .cons (g.1 _ h.1) (dqAll_of h.2 g.2)
  | [], _ :: _, _, _, h, _ => h.elim
  | _ :: _, [], _, _, h, _ => h.elim
  | [], [], _ :: _, _, _, g => g.elim
  | _ :: _, _ :: _, [], _, _, g => g.elim
theorem call_tuple_ofK {X : Cx} (hK : X.K = K := by rfl) : CallR X (.type "tuple") (rTupOf K) := by
  subst hK
  exact call_tuple_of
theorem op_neDK {X : Cx} (hu : X.A.units + 64 < cLine) (hK : X.K = K := by rfl) : OpR X (compareOp .NotEq) (rNeD K) := by
  subst hK
  exact op_neD hu
end
end L2.Vf
/-! Dicts whose keys are texts and tuples, mixed: what they hold, found, read, written. -/
namespace L2.Vf
open PySem PySem.Spec PyProof.Rows
/-- a row of the dict: the key, its value, what stands under it -/
abbrev Mr := NestedKey × Value × Value
def mEnt (w : World) (r : Mr) : DictEntry := ⟨r.1.hash w, r.2.1, r.2.2⟩
/-- the rows of a dict, in order -/
structure MxRows (w : World) (h : Heap) (es : Array DictEntry) (xs : List Mr) : Prop where
  at_ : es.toList = xs.map (mEnt w)
  key : ∀ r ∈ xs, NestedIs h r.1 r.2.1 ∧ r.1.depth ≤ 8
  one : (xs.map (·.1)).Nodup
/-- the row of the key k stands at place i -/
def MxAt (xs : List Mr) (k : NestedKey) (i : Nat) : Prop := ∃ r, xs[i]? = some r ∧ r.1 = k
theorem MxAt.uniq {xs : List Mr} {k : NestedKey} (hn : (xs.map (·.1)).Nodup) {i j : Nat} (a : MxAt xs k i) (b : MxAt xs k j) : i = j := by
  obtain ⟨r, hi, rfl⟩ := a
  obtain ⟨q, hj, e⟩ := b
  have x1 : (xs.map (·.1))[i]? = some r.1 := by rw [List.getElem?_map, hi]; rfl
  have x2 : (xs.map (·.1))[j]? = some r.1 := by rw [List.getElem?_map, hj, ← e]; rfl
  exact (List.getElem?_inj (List.getElem?_eq_some_iff.mp x1).1 hn).mp (x1.trans x2.symm)
section
variable {prog : Program} {w : World} {A : Around} {E : Value → Shared → Prop} {s : Shared} {es : Array DictEntry} {xs : List Mr} {k : NestedKey} {key : Value} {d : Addr} {o : Obj} {ep : Nat}
theorem MxRows.get (M : MxRows w s.heap es xs) (j : Nat) : es[j]? = (xs[j]?).map (mEnt w) := by
  rw [← Array.getElem?_toList, M.at_, List.getElem?_map]
theorem MxRows.size (M : MxRows w s.heap es xs) : es.size = xs.length := by
  rw [← Array.length_toList, M.at_, List.length_map]
theorem MxRows.mem (M : MxRows w s.heap es xs) {e : DictEntry} (h : e ∈ es) : ∃ r ∈ xs, e = mEnt w r := by
  have z : e ∈ xs.map (mEnt w) := M.at_ ▸ Array.mem_toList_iff.mpr h
  obtain ⟨r, hr, rfl⟩ := List.mem_map.mp z
  exact ⟨r, hr, rfl⟩
abbrev mPl (w : World) (es : Array DictEntry) (k : NestedKey) : List Nat := placesWithHash es.size (fun i => es[i]?.map (·.hash)) (k.hash w)
theorem mem_mPl (M : MxRows w s.heap es xs) {i : Nat} : i ∈ mPl w es k ↔ ∃ r, xs[i]? = some r ∧ r.1.hash w = k.hash w := by
  unfold mPl placesWithHash
  rw [List.mem_filter, List.mem_range]
  show i < es.size ∧ ((es[i]?.map (·.hash)) == some (k.hash w)) = true ↔ _
  rw [M.get i, M.size]
  constructor
  · rintro ⟨h1, h2⟩
    obtain ⟨r, hr⟩ : ∃ r, xs[i]? = some r := ⟨_, List.getElem?_eq_getElem h1⟩
    rw [hr] at h2
    refine ⟨r, hr, ?_⟩
    simpa [mEnt] using h2
  · rintro ⟨r, hr, e⟩
    refine ⟨(List.getElem?_eq_some_iff.mp hr).1, ?_⟩
    rw [hr]
    simpa [mEnt] using e
theorem nodup_mPl : (mPl w es k).Nodup := List.Pairwise.filter _ List.nodup_range
theorem MxAt.mem (M : MxRows w s.heap es xs) {i : Nat} (h : MxAt xs k i) : i ∈ mPl w es k := by
  obtain ⟨r, hr, rfl⟩ := h
  exact (mem_mPl M).mpr ⟨r, hr, rfl⟩
theorem eq_mix {x y : NestedKey} {a b : Value} {Q : Bool → Shared → Prop} (hu : A.units + 8 < cLine) (hx : NestedIs s.heap x a) (hy : NestedIs s.heap y b) (d1 : x.depth ≤ 8) (h : Q (decide (x = y)) s) :
    wpAny (model prog w) A (eqBool a b) Q E s := by
  refine eqAt_key x y A s a b hx hy (by have := Nat.min_le_left x.depth y.depth; omega) prog w E Q ?_
  rw [← NestedKey.decide_eq]
  exact h
theorem tells_mix {stored : List Value} {Q : Bool → Shared → Prop} (hk : NestedIs s.heap k key) (dk : k.depth ≤ 8) (hs : ∀ v ∈ stored, ∃ q, NestedIs s.heap q v ∧ q.depth ≤ 8) (h : Q false s) :
    wpAny (model prog w) A (tableMayTell key stored) Q E s := by
  unfold tableMayTell
  by_cases hz : stored.isEmpty = true
  · rw [if_pos hz]
    exact wpAny_pure h
  rw [if_neg hz]
  refine wpAny_bind (quiet_key k key 8 s hk dk A E _ ?_)
  rw [if_neg (by decide)]
  refine wpAny_bind (wpAny_forIn_list _ (fun rest r s1 => s1 = s ∧ r = (none, ()) ∧ ∀ v ∈ rest, v ∈ stored) _ ?_ ?_ _ _ ⟨rfl, rfl, fun _ z => z⟩)
  · rintro x rest r s1 ⟨rfl, rfl, sub⟩
    obtain ⟨q, hq, dq⟩ := hs x (sub x List.mem_cons_self)
    refine wpAny_bind (quiet_key q x 8 s1 hq dq A E _ ?_)
    rw [if_neg (by decide)]
    exact wpAny_pure ⟨rfl, rfl, fun v hv => sub v (List.mem_cons_of_mem _ hv)⟩
  · rintro r s1 ⟨rfl, rfl, _⟩
    exact wpAny_pure h
/-- how the places are walked -/
abbrev MxSeen (xs : List Mr) (k : NestedKey) (pl rest : List Nat) (hit : Option Nat) : Prop := ∃ done, pl = done ++ rest ∧ ((hit = none ∧ ∀ i ∈ done, ¬ MxAt xs k i) ∨ ∃ i, hit = some i ∧ i ∈ done ∧ MxAt xs k i)
theorem MxSeen.next {pl rest : List Nat} {hit : Option Nat} {x : Nat} (h : MxSeen xs k pl (x :: rest) hit) (n : ¬ MxAt xs k x) : MxSeen xs k pl rest hit := by
  obtain ⟨done, e, h⟩ := h
  refine ⟨done ++ [x], by rw [e]; simp, ?_⟩
  rcases h with ⟨h1, h2⟩ | ⟨i, h1, h2, h3⟩
  · refine .inl ⟨h1, fun i hi => ?_⟩
    rcases List.mem_append.mp hi with z | z
    · exact h2 i z
    · rw [List.mem_singleton.mp z]
      exact n
  · exact .inr ⟨i, h1, List.mem_append_left _ h2, h3⟩
theorem MxSeen.hit {pl rest : List Nat} {hit : Option Nat} {x : Nat} (h : MxSeen xs k pl (x :: rest) hit) (n : MxAt xs k x) (hn : (xs.map (·.1)).Nodup) (hp : pl.Nodup) : hit = none ∧ MxSeen xs k pl rest (some x) := by
  obtain ⟨done, e, h⟩ := h
  have off : x ∉ done := fun z => by
    rw [e] at hp
    exact (List.nodup_append.mp hp).2.2 x z x List.mem_cons_self rfl
  refine ⟨?_, done ++ [x], by rw [e]; simp, .inr ⟨x, rfl, by simp, n⟩⟩
  rcases h with ⟨h1, _⟩ | ⟨i, _, h2, h3⟩
  · exact h1
  · rw [MxAt.uniq hn h3 n] at h2
    exact absurd h2 off
theorem MxSeen.end_ {hit : Option Nat} (M : MxRows w s.heap es xs) (h : MxSeen xs k (mPl w es k) [] hit) : (hit = none ∧ ∀ i, ¬ MxAt xs k i) ∨ ∃ i, hit = some i ∧ MxAt xs k i := by
  obtain ⟨done, e, h⟩ := h
  rw [List.append_nil] at e
  rcases h with ⟨h1, h2⟩ | ⟨i, h1, _, h3⟩
  · exact .inl ⟨h1, fun i hi => h2 i (e ▸ hi.mem M) hi⟩
  · exact .inr ⟨i, h1, h3⟩
/-- the walk where all keys are carried by value -/
theorem plain_mix {Q : Option Nat → Shared → Prop} (hu : A.units + 8 < cLine) (hk : NestedIs s.heap k key) (dk : k.depth ≤ 8) (ho : s.heap.get? d = some o) (hd : o.data = .dict es ep) (M : MxRows w s.heap es xs)
    (h0 : (∀ i, ¬ MxAt xs k i) → Q none s) (h1 : ∀ i, MxAt xs k i → Q (some i) s) : wpAny (model prog w) A (dictWalkPlain d key (k.hash w) es (mPl w es k)) Q E s := by
  unfold dictWalkPlain
  refine wpAny_bind (wpAny_forIn_list _ (fun rest r s1 => s1 = s ∧ r = (none, ()) ∧ MxSeen xs k (mPl w es k) rest none) _ ?_ ?_ _ _ ⟨rfl, rfl, [], rfl, .inl ⟨rfl, fun i z => by cases z⟩⟩)
  · rintro x rest r s1 ⟨rfl, rfl, seen⟩
    have hx : x ∈ mPl w es k := by
      obtain ⟨done, e, _⟩ := seen
      rw [e]
      simp
    obtain ⟨q, hq, hh⟩ := (mem_mPl M).mp hx
    rw [M.get x, hq]
    dsimp only [Option.map]
    have hkey := (M.key q (List.mem_of_getElem? hq))
    rw [if_pos (show ((mEnt w q).hash == k.hash w) = true by simpa [mEnt] using hh)]
    refine wpAny_bind (wpAny_dictEpoch ho hd (wpAny_bind (eq_mix hu hkey.1 hk hkey.2 (wpAny_bind (wpAny_dictEpoch ho hd ?_)))))
    rw [if_neg (by simp)]
    by_cases e : q.1 = k
    · rw [decide_eq_true e, if_pos rfl]
      exact wpAny_bind (wpAny_rule (wpAny_pure (wpAny_pure (h1 x ⟨q, hq, e⟩))))
    · rw [decide_eq_false e, if_neg (by decide)]
      refine wpAny_bind (wpAny_rule (wpAny_pure ⟨rfl, rfl, seen.next ?_⟩))
      rintro ⟨q', hq', e'⟩
      rw [hq] at hq'
      cases hq'
      exact e e'
  · rintro r s1 ⟨rfl, rfl, seen⟩
    rcases seen.end_ M with ⟨_, z⟩ | ⟨i, z, _⟩
    · exact wpAny_pure (h0 z)
    · cases z
/-- the key is looked for -/
theorem find_mix {Q : Option Nat → Shared → Prop} (hu : A.units + 8 < cLine) (hk : NestedIs s.heap k key) (dk : k.depth ≤ 8) (ho : s.heap.get? d = some o) (hd : o.data = .dict es ep) (M : MxRows w s.heap es xs)
    (h0 : (∀ i, ¬ MxAt xs k i) → Q none s) (h1 : ∀ i, MxAt xs k i → Q (some i) s) : wpAny (model prog w) A (dictFind d key (k.hash w)) Q E s := by
  have stored : ∀ v ∈ (mPl w es k).filterMap (fun i => es[i]?.map (·.key)), ∃ q, NestedIs s.heap q v ∧ q.depth ≤ 8 := by
    intro v hv
    obtain ⟨i, _, hi⟩ := List.mem_filterMap.mp hv
    rw [M.get i] at hi
    cases hr : xs[i]? with
    | none => rw [hr] at hi; cases hi
    | some r =>
      rw [hr] at hi
      obtain rfl : r.2.1 = v := by simpa [mEnt] using hi
      exact ⟨r.1, M.key r (List.mem_of_getElem? hr)⟩
  have changed : ∀ a, key = .ref a → ¬ (es.any fun e => e.key == key && e.hash != k.hash w) = true := by
    intro a _ z
    obtain ⟨e, he, hc⟩ := List.any_eq_true.mp (by rw [← Array.any_toList] at z; exact z)
    obtain ⟨r, hr, rfl⟩ := M.mem (Array.mem_toList_iff.mp he)
    simp only [mEnt, Bool.and_eq_true, beq_iff_eq, bne_iff_ne, ne_eq] at hc
    have same := NestedIs.inj _ _ _ (hc.1 ▸ (M.key r hr).1) hk
    exact hc.2 (by rw [same])
  unfold dictFind
  try with_reducible refine wpAny_holding ?_
  refine wpAny_bind (wpAny_dictEntries ho hd ?_)
  by_cases allT : (∃ x t, key = Value.str x t) ∧ (es.all fun e => isExactStrKey e.key) = true
  · obtain ⟨⟨x, t, rfl⟩, ha⟩ := allT
    dsimp only
    rw [if_pos ha]
    cases hk
    have isS : ∀ {j : Nat} {r : Mr}, xs[j]? = some r → ((mEnt w r).key.isStr x = true ↔ r.1 = .text x) := by
      intro j r hj
      obtain ⟨e1, _⟩ := M.key r (List.mem_of_getElem? hj)
      have e2 : isExactStrKey r.2.1 = true := by
        have z := Array.all_eq_true'.mp ha (mEnt w r) (Array.mem_of_getElem? (by rw [M.get j, hj]; rfl))
        exact z
      obtain ⟨q, kv, v⟩ := r
      cases kv with
      | str y t' =>
        cases e1
        simp [mEnt, Value.isStr]
      | _ => cases e2
    unfold foundByValue
    cases hf : es.findIdx? (fun e => e.key.isStr x) with
    | none =>
      refine wpAny_pure (h0 fun i => ?_)
      rintro ⟨r, hr, e⟩
      have z := Array.findIdx?_eq_none_iff.mp hf (mEnt w r) (Array.mem_of_getElem? (by rw [M.get i, hr]; rfl))
      rw [(isS hr).mpr e] at z
      cases z
    | some i =>
      obtain ⟨hlt, hi, _⟩ := Array.findIdx?_eq_some_iff_getElem.mp hf
      obtain ⟨r, hr⟩ : ∃ r, xs[i]? = some r := ⟨_, List.getElem?_eq_getElem (by rw [← M.size]; exact hlt)⟩
      have he : es[i]? = some (mEnt w r) := by rw [M.get i, hr]; rfl
      have hi' : (mEnt w r).key.isStr x = true := by
        rw [Array.getElem?_eq_getElem hlt] at he
        rw [← Option.some.inj he]
        exact hi
      have e := (isS hr).mp hi'
      dsimp only
      rw [he]
      dsimp only
      have hkey := M.key r (List.mem_of_getElem? hr)
      refine wpAny_bind (wpAny_dictEpoch ho hd (wpAny_bind (eq_mix (y := .text x) hu hkey.1 (.text x t) hkey.2 (wpAny_bind (wpAny_dictEpoch ho hd ?_)))))
      rw [if_neg (by simp), decide_eq_true e, if_pos rfl]
      exact wpAny_bind (wpAny_rule (wpAny_pure (h1 i ⟨r, hr, e⟩)))
  · dsimp only
    by_cases hv : ((key :: ((placesWithHash es.size (fun i => es[i]?.map (·.hash)) (k.hash w)).filterMap fun i => es[i]?.map (·.key))).all carriedByValue) = true
    · split
      all_goals
        try rw [if_neg (fun z => allT ⟨⟨_, _, rfl⟩, z⟩)]
        rw [if_pos hv]
        exact plain_mix hu hk dk ho hd M h0 h1
    · have alone := Classical.em (((((placesWithHash es.size (fun i => es[i]?.map (·.hash)) (k.hash w)).filterMap fun i => es[i]?.map (·.key))) == [key]) = true)
      split
      all_goals
        try rw [if_neg (fun z => allT ⟨⟨_, _, rfl⟩, z⟩)]
        rw [if_neg hv]
        split
      all_goals try (exfalso; rename_i hz; exact absurd hz (fun q => by cases q); done)
      all_goals
        try rw [if_neg (changed _ rfl)]
        rcases alone with alone | alone
        all_goals
          first
          | rw [if_pos alone]
          | rw [if_neg alone]
          first
          | refine wpAny_bind (wpAny_pure ?_)
          | refine wpAny_bind (tells_mix hk dk stored ?_)
          rw [if_neg (by simp)]
          refine wpAny_bind (wpAny_forIn_list _ (fun rest b s1 => s1 = s ∧ ∃ hit, b = (none, hit) ∧ MxSeen xs k (mPl w es k) rest hit) _ ?_ ?_ _ _ ⟨rfl, none, rfl, [], rfl, .inl ⟨rfl, fun i z => by cases z⟩⟩)
          · rintro x rest b s1 ⟨rfl, hit, rfl, seen⟩
            have hx : x ∈ mPl w es k := by
              obtain ⟨done, e, _⟩ := seen
              rw [e]
              simp
            obtain ⟨q, hq, hh⟩ := (mem_mPl M).mp hx
            have hkey := M.key q (List.mem_of_getElem? hq)
            have he : es[x]? = some (mEnt w q) := by rw [M.get x, hq]; rfl
            rw [he]
            dsimp only
            rw [if_pos (show ((mEnt w q).hash == k.hash w) = true by simpa [mEnt] using hh)]
            refine wpAny_bind (wpAny_dictEpoch ho hd (wpAny_bind (eq_mix hu hkey.1 hk hkey.2 (wpAny_bind (wpAny_dictEpoch ho hd ?_)))))
            rw [if_neg (by simp)]
            by_cases e : q.1 = k
            · rw [decide_eq_true e, if_pos rfl]
              obtain ⟨rfl, seen'⟩ := seen.hit ⟨q, hq, e⟩ M.one nodup_mPl
              rw [if_neg (by simp)]
              refine wpAny_bind (wpAny_rule ?_)
              split
              · exact wpAny_pure (wpAny_pure (h1 x ⟨q, hq, e⟩))
              · exact wpAny_pure ⟨rfl, some x, rfl, seen'⟩
            · rw [decide_eq_false e, if_neg (by decide)]
              refine wpAny_bind (wpAny_rule ?_)
              rw [if_neg (by simp)]
              refine wpAny_pure ⟨rfl, hit, rfl, seen.next ?_⟩
              rintro ⟨q', hq', e'⟩
              rw [hq] at hq'
              cases hq'
              exact e e'
          · rintro b s1 ⟨rfl, hit, rfl, seen⟩
            rcases seen.end_ M with ⟨rfl, z⟩ | ⟨i, rfl, z⟩
            · exact wpAny_pure (h0 z)
            · exact wpAny_pure (h1 i z)
end
end L2.Vf
/-! Dicts of mixed keys: read and written. -/
namespace L2.Vf
open PySem PySem.Spec PyProof.Rows
/-- what stands under k -/
def mGet (xs : List Mr) (k : NestedKey) : Option Mr := xs.find? fun r => decide (r.1 = k)
def mPut (xs : List Mr) (k : NestedKey) (key v : Value) : List Mr := if (mGet xs k).isSome = true then xs.map (fun r => if r.1 = k then (r.1, r.2.1, v) else r) else xs ++ [(k, key, v)]
def MixAt (w : World) (h : Heap) (d : Addr) (xs : List Mr) : Prop := ∃ (o : Obj) (es : Array DictEntry) (ep : Nat), h.get? d = some o ∧ o.ExactDict ∧ o.data = .dict es ep ∧ MxRows w h es xs
theorem mGet_none {xs : List Mr} {k : NestedKey} (h : ∀ i, ¬ MxAt xs k i) : mGet xs k = none := by
  unfold mGet
  rw [List.find?_eq_none]
  intro r hr z
  obtain ⟨i, hi⟩ := List.mem_iff_getElem?.mp hr
  exact h i ⟨r, hi, of_decide_eq_true z⟩
theorem mGet_some {xs : List Mr} {k : NestedKey} (hn : (xs.map (·.1)).Nodup) {i : Nat} {r : Mr} (hi : xs[i]? = some r) (e : r.1 = k) : mGet xs k = some r := by
  unfold mGet
  cases hf : xs.find? (fun r => decide (r.1 = k)) with
  | none =>
    have z := List.find?_eq_none.mp hf r (List.mem_of_getElem? hi)
    simp [e] at z
  | some q =>
    have hq : q.1 = k := by simpa using List.find?_some hf
    obtain ⟨j, hj⟩ := List.mem_iff_getElem?.mp (List.mem_of_find?_eq_some hf)
    have := MxAt.uniq hn ⟨q, hj, hq⟩ ⟨r, hi, e⟩
    subst this
    rw [hi] at hj
    exact hj.symm ▸ rfl
section
variable {prog : Program} {w : World} {A : Around} {E : Value → Shared → Prop} {s : Shared} {xs : List Mr} {k : NestedKey} {key : Value} {d : Addr}
theorem MixAt.typeIs (M : MixAt w s.heap d xs) : s.TypeIs (.ref d) "dict" := by
  obtain ⟨o, es, ep, ho, hx, _⟩ := M
  exact ⟨o, ho, hx.1⟩
theorem MixAt.len (M : MixAt w s.heap d xs) : ∃ o es ep, s.heap.get? d = some o ∧ o.data = .dict es ep ∧ es.size = xs.length := by
  obtain ⟨o, es, ep, ho, _, hd, R⟩ := M
  exact ⟨o, es, ep, ho, hd, R.size⟩
theorem get_mix {Q : Option Value → Shared → Prop} (hu : A.units + 16 < cLine) (hk : NestedIs s.heap k key) (dk : k.depth ≤ 8) (M : MixAt w s.heap d xs)
    (h : Q ((mGet xs k).map (·.2.2)) { s with toks := s.toks + k.draws }) : wpAny (model prog w) A (dictGet d key) Q E s := by
  obtain ⟨o, es, ep, ho, _, hd, R⟩ := M
  unfold dictGet
  try with_reducible refine wpAny_holding ?_
  refine wpAny_bind (pyHash_key k key A s _ hk (by omega) (wpAny_bind ?_))
  refine find_mix (s := { s with toks := s.toks + k.draws }) (by omega) hk dk ho hd ⟨R.at_, R.key, R.one⟩ (fun z => ?_) (fun i z => ?_)
  · rw [mGet_none z] at h
    exact wpAny_pure h
  · obtain ⟨r, hr, e⟩ := z
    rw [mGet_some R.one hr e] at h
    refine wpAny_bind (wpAny_dictEntries (s := { s with toks := s.toks + k.draws }) ho hd ?_)
    rw [R.get i, hr]
    exact wpAny_pure h
theorem NestedIs.mut {h h' : Heap} {q : NestedKey} {v : Value} {o : Obj} {es : Array DictEntry} {ep : Nat} (ho : h.get? d = some o) (hd : o.data = .dict es ep) (st : ∀ b, b ≠ d → h'.get? b = h.get? b) (x : NestedIs h q v) : NestedIs h' q v := by
  refine NestedIs.at (fun b ob vs n hb hc => ?_) q v x
  by_cases e : b = d
  · rw [e, ho] at hb
    cases hb
    rw [hd] at hc
    cases hc
  · rw [st b e]
    exact hb
theorem set_mix {v : Value} {Q : Unit → Shared → Prop} (hu : A.units + 16 < cLine) (hk : NestedIs s.heap k key) (dk : k.depth ≤ 8) (M : MixAt w s.heap d xs) (hz : xs.length ≤ sizeLine)
    (h : ∀ h', MixAt w h' d (mPut xs k key v) → Heap.SameBut d s.heap h' → Q () { s with heap := h', toks := s.toks + k.draws }) : wpAny (model prog w) A (dictSet d key v) Q E s := by
  obtain ⟨o, es, ep, ho, hx, hd, R⟩ := M
  unfold dictSet
  try with_reducible refine wpAny_holding ?_
  refine wpAny_bind (pyHash_key k key A s _ hk (by omega) ?_)
  unfold dictSetHashed
  try with_reducible refine wpAny_holding ?_
  refine wpAny_bind (find_mix (s := { s with toks := s.toks + k.draws }) (by omega) hk dk ho hd ⟨R.at_, R.key, R.one⟩ (fun z => ?_) (fun i z => ?_))
  · have fresh := mGet_none z
    refine wpAny_bind (wpAny_rule (wpAny_updateDictKeys (hz := by have e := R.size; omega) (s := { s with toks := s.toks + k.draws }) ho hd (h _ ⟨_, _, ep + 1, Heap.get?_update_self _ ho (Obj.isFreed_of_dict (Obj.data_mapDictKeys hd _)),
      hx.mapDictKeys _, Obj.data_mapDictKeys hd _, ?_⟩ (Heap.SameBut.update ..))))
    unfold mPut
    rw [fresh, if_neg (by decide)]
    refine ⟨by simp [R.at_, mEnt], fun r hr => ?_, ?_⟩
    · have st : ∀ b, b ≠ d → (s.heap.update d fun o => o.mapDictKeys (·.push ⟨k.hash w, key, v⟩)).get? b = s.heap.get? b := fun b hb => (Heap.SameBut.update ..).2 b hb
      rcases List.mem_append.mp hr with hr | hr
      · exact ⟨NestedIs.mut ho hd st (R.key r hr).1, (R.key r hr).2⟩
      · rw [List.mem_singleton.mp hr]
        exact ⟨NestedIs.mut ho hd st hk, dk⟩
    · rw [List.map_append, List.nodup_append]
      refine ⟨R.one, by simp, ?_⟩
      intro x hx y hy e
      obtain ⟨r, hr, rfl⟩ := List.mem_map.mp hx
      obtain ⟨i, hi⟩ := List.mem_iff_getElem?.mp hr
      simp at hy
      exact z i ⟨r, hi, e.trans hy⟩
  · obtain ⟨r, hr, e⟩ := z
    have there := mGet_some R.one hr e
    refine wpAny_bind (wpAny_rule (wpAny_bind (wpAny_updateDict (s := { s with toks := s.toks + k.draws }) ho hd (wpAny_point (h _ ⟨_, _, ep, Heap.get?_update_self _ ho (Obj.isFreed_of_dict (Obj.data_mapDict hd _)),
      hx.mapDict _, Obj.data_mapDict hd _, ?_⟩ (Heap.SameBut.update ..))))))
    unfold mPut
    rw [there, if_pos (show (some r).isSome = true from rfl)]
    have same : (xs.map fun r => if r.1 = k then (r.1, r.2.1, v) else r).map (·.1) = xs.map (·.1) := by
      rw [List.map_map]
      refine List.map_congr_left fun q _ => ?_
      show (if q.1 = k then (q.1, q.2.1, v) else q).1 = q.1
      split <;> rfl
    refine ⟨?_, fun q hq => ?_, by rw [same]; exact R.one⟩
    · apply List.ext_getElem?
      intro j
      rw [Array.getElem?_toList, Array.getElem?_modify, R.get j, List.getElem?_map, List.getElem?_map]
      cases hj : xs[j]? with
      | none => simp
      | some q =>
        by_cases hij : i = j
        · subst hij
          rw [hr] at hj
          cases hj
          rw [if_pos rfl]
          simp [mEnt, e]
        · have ne : q.1 ≠ k := fun z => hij (MxAt.uniq R.one ⟨r, hr, e⟩ ⟨q, hj, z⟩)
          rw [if_neg hij]
          simp [ne]
    · obtain ⟨q0, h0, rfl⟩ := List.mem_map.mp hq
      have st : ∀ b, b ≠ d → (s.heap.update d (Obj.mapDict fun x => x.modify i fun e => { e with val := v })).get? b = s.heap.get? b := fun b hb => (Heap.SameBut.update ..).2 b hb
      have z := R.key q0 h0
      split
      · exact ⟨NestedIs.mut ho hd st z.1, z.2⟩
      · exact ⟨NestedIs.mut ho hd st z.1, z.2⟩
end
end L2.Vf
/-! Dicts of mixed keys, as the hand layer reads them. -/
namespace L2.Vf
open PySem PySem.Spec PyProof.Rows
open Evl (Ex Ev EvT EvL EvA)
mutual
/-- the value is this key: a text, a whole number, a tuple of such -/
inductive KeyV (K : PySem.W.Frag) (H : Hp) : NestedKey → V → Prop
  | num (i : Int) : KeyV K H (.num i) (.int i)
  | text (x : Str) : KeyV K H (.text x) (.str x)
  | tup {a : Addr} {vs : List V} {ks : List NestedKey} : SqT K H a vs → KeyVs K H ks vs → KeyV K H (.tup ks) (.ref a)
inductive KeyVs (K : PySem.W.Frag) (H : Hp) : List NestedKey → List V → Prop
  | nil : KeyVs K H [] []
  | cons {k : NestedKey} {v : V} {ks : List NestedKey} {vs : List V} : KeyV K H k v → KeyVs K H ks vs → KeyVs K H (k :: ks) (v :: vs)
end
mutual
theorem KeyV.to {K : PySem.W.Frag} {H H' : Hp} (e : ∀ {a : Addr} {xs : List V}, SqT K H a xs → SqT K H' a xs) : ∀ (k : NestedKey) (v : V), KeyV K H k v → KeyV K H' k v
  | .none, _, h => by cases h
  | .num i, _, h => by cases h; exact .num i
  | .text x, _, h => by cases h; exact .text x
  | .tup ks, _, h => by
    cases h with
    | tup h1 h2 => exact .tup (e h1) (KeyVs.to e ks _ h2)
theorem KeyVs.to {K : PySem.W.Frag} {H H' : Hp} (e : ∀ {a : Addr} {xs : List V}, SqT K H a xs → SqT K H' a xs) : ∀ (ks : List NestedKey) (vs : List V), KeyVs K H ks vs → KeyVs K H' ks vs
  | [], _, h => by cases h; exact .nil
  | k :: ks, _, h => by
    cases h with
    | cons h1 h2 => exact .cons (KeyV.to e k _ h1) (KeyVs.to e ks _ h2)
end
theorem KeyV.mono {K : PySem.W.Frag} {H H' : Hp} (e : Ex H H') (k : NestedKey) (v : V) (h : KeyV K H k v) : KeyV K H' k v := KeyV.to (Evl.ex_t e) k v h
mutual
theorem KeyV.inj {K : PySem.W.Frag} {H : Hp} (u : ∀ {a : Addr} {xs ys : List V}, SqT K H a xs → SqT K H a ys → xs = ys) : ∀ (k j : NestedKey) (v : V), KeyV K H k v → KeyV K H j v → k = j
  | .none, _, _, h, _ => by cases h
  | .num i, j, _, h, g => by cases h; cases g; rfl
  | .text x, j, _, h, g => by cases h; cases g; rfl
  | .tup ks, j, _, h, g => by
    cases h with
    | tup h1 h2 =>
      cases g with
      | tup g1 g2 =>
        obtain rfl := u h1 g1
        rw [KeyVs.inj u ks _ _ h2 g2]
theorem KeyVs.inj {K : PySem.W.Frag} {H : Hp} (u : ∀ {a : Addr} {xs ys : List V}, SqT K H a xs → SqT K H a ys → xs = ys) : ∀ (ks js : List NestedKey) (vs : List V), KeyVs K H ks vs → KeyVs K H js vs → ks = js
  | [], js, _, h, g => by cases h; cases g; rfl
  | k :: ks, js, _, h, g => by
    cases h with
    | cons h1 h2 =>
      cases g with
      | cons g1 g2 => rw [KeyV.inj u k _ _ h1 g1, KeyVs.inj u ks _ _ h2 g2]
end
/-- a row, as it is tracked: the key, its value, what stands under it -/
abbrev Mv := NestedKey × V × V
/-- a tracked row and a row of the object -/
def RowR (p : Mv) (r : Mr) : Prop := p.1 = r.1 ∧ RelV p.2.1 r.2.1 ∧ RelV p.2.2 r.2.2
/-- at d: a dict of these rows -/
def mxo (d : Addr) (w : World) (ks : List Mv) : HO := .ext fun h => ∃ (o : Obj) (es : Array DictEntry) (ep : Nat) (xs : List Mr), h.get? d = some o ∧ o.ExactDict ∧ o.data = .dict es ep ∧ es.toList = xs.map (mEnt w) ∧ Paired RowR ks xs
/-- d is a dict of these rows, the keys all different -/
structure Mx (K : PySem.W.Frag) (H : Hp) (w : World) (d : Addr) (ks : List Mv) : Prop where
  obj : Rd H d (mxo d w ks)
  key : ∀ p ∈ ks, KeyV K H p.1 p.2.1 ∧ p.1.depth ≤ 8
  one : (ks.map (·.1)).Nodup
  len : ks.length ≤ 1000
  sys : (d == sysModules) = false
theorem Mx.mono {K : PySem.W.Frag} {H H' : Hp} {w : World} {d : Addr} {ks : List Mv} (e : Ex H H') (m : Mx K H w d ks) : Mx K H' w d ks :=
  ⟨Evl.ex_rd e m.obj, fun p hp => ⟨KeyV.mono e _ _ (m.key p hp).1, (m.key p hp).2⟩, m.one, m.len, m.sys⟩
/-- what stands under k; the rows once y stands there -/
def vM (ks : List Mv) (k : NestedKey) : Option V := (ks.find? fun p => decide (p.1 = k)).map (·.2.2)
def pM (ks : List Mv) (k : NestedKey) (kv y : V) : List Mv := if (vM ks k).isSome = true then ks.map (fun p => if p.1 = k then (p.1, p.2.1, y) else p) else ks ++ [(k, kv, y)]
theorem rows_find {ks : List Mv} {xs : List Mr} (h : Paired RowR ks xs) (k : NestedKey) : RelO (vM ks k) ((mGet xs k).map (·.2.2)) := by
  induction h with
  | nil => exact True.intro
  | @cons p r ps rs hp _ ih =>
    obtain ⟨e, _, h2⟩ := hp
    unfold vM mGet
    rw [List.find?_cons, List.find?_cons]
    by_cases z : p.1 = k
    · rw [decide_eq_true z, decide_eq_true (e ▸ z)]
      exact h2
    · rw [decide_eq_false z, decide_eq_false (e ▸ z)]
      exact ih
theorem rows_put {ks : List Mv} {xs : List Mr} (h : Paired RowR ks xs) (k : NestedKey) {kv y : V} {key v : Value} (r1 : RelV kv key) (r2 : RelV y v) : Paired RowR (pM ks k kv y) (mPut xs k key v) := by
  have same : (vM ks k).isSome = (mGet xs k).isSome := by
    have z := (rows_find h k).isSome_eq
    rw [z, Option.isSome_map]
  unfold pM mPut
  rw [← same]
  split
  · clear same
    rename_i g
    clear g
    induction h with
    | nil => exact .nil
    | @cons p r ps rs hp _ ih =>
      refine .cons ?_ ih
      obtain ⟨e, h1, h2⟩ := hp
      dsimp only
      by_cases z : p.1 = k
      · rw [if_pos z, if_pos (e ▸ z)]
        exact ⟨e, h1, r2⟩
      · rw [if_neg z, if_neg (e ▸ z)]
        exact ⟨e, h1, h2⟩
  · exact Paired.snoc h ⟨rfl, r1, r2⟩
section
variable {X : Cx} {pins : List (Addr × Obj)} {σ : St} {H : Hp} {s : Shared} {d : Addr} {ks : List Mv} {k : NestedKey} {y v : V} {u r : Value} {A : Around} {E : Value → Shared → Prop}
mutual
theorem KeyV.is (I : Inv X pins σ H s) : ∀ (k : NestedKey) (v : V) (u : Value), KeyV X.K H k v → RelV v u → NestedIs s.heap k u
  | .none, _, _, h, _ => by cases h
  | .num i, _, _, h, g => by
    cases h
    obtain ⟨t, rfl⟩ := g
    exact .int i t
  | .text x, _, _, h, g => by
    cases h
    obtain ⟨t, rfl⟩ := g
    exact .text x t
  | .tup ks, _, _, h, g => by
    cases h with
    | tup h1 h2 =>
      cases g
      obtain ⟨its, rv, ⟨o, ho, hc, n, hd⟩, _⟩ := I.tuple h1
      exact .tup ho hc hd (KeyVs.is I ks _ _ h2 rv)
theorem KeyVs.is (I : Inv X pins σ H s) : ∀ (ks : List NestedKey) (vs : List V) (us : List Value), KeyVs X.K H ks vs → Vals vs us → NestedAll s.heap ks us
  | [], _, _, h, g => by
    cases h
    cases g
    exact .nil
  | k :: ks, _, _, h, g => by
    cases h with
    | cons h1 h2 =>
      cases g with
      | cons g1 g2 => exact .cons (KeyV.is I k _ _ h1 g1) (KeyVs.is I ks _ _ h2 g2)
end
theorem rows_mem {ks : List Mv} {xs : List Mr} (h : Paired RowR ks xs) : ∀ r ∈ xs, ∃ p ∈ ks, RowR p r := by
  induction h with
  | nil => intro r z; cases z
  | @cons p r ps rs hp _ ih =>
    intro q hq
    rcases List.mem_cons.mp hq with rfl | z
    · exact ⟨p, List.mem_cons_self, hp⟩
    · obtain ⟨p', h1, h2⟩ := ih q z
      exact ⟨p', List.mem_cons_of_mem _ h1, h2⟩
theorem rows_keys {ks : List Mv} {xs : List Mr} (h : Paired RowR ks xs) : xs.map (·.1) = ks.map (·.1) := by
  induction h with
  | nil => rfl
  | @cons p r ps rs hp _ ih => rw [List.map_cons, List.map_cons, ih, hp.1]
theorem Mx.at_ (I : Inv X pins σ H s) (m : Mx X.K H X.w d ks) : ∃ xs, MixAt X.w s.heap d xs ∧ Paired RowR ks xs := by
  obtain ⟨⟨o, es, ep, xs, ho, hx, hd, he, hp⟩, _, _⟩ := (m.obj.ok I.hok : ObjOk _ _ _ _ _ (mxo d X.w ks))
  refine ⟨xs, ⟨o, es, ep, ho, hx, hd, he, fun r hr => ?_, by rw [rows_keys hp]; exact m.one⟩, hp⟩
  obtain ⟨p, h1, h2⟩ := rows_mem hp r hr
  obtain ⟨h3, h4⟩ := m.key p h1
  rw [h2.1] at h3 h4
  exact ⟨KeyV.is I _ _ _ h3 h2.2.1, h4⟩
/-- d[y], there -/
theorem m_getItem {Q : Value → Shared → Prop} (hu : A.units + 40 < cLine) (I : Inv X pins σ H s) (m : Mx X.K H X.w d ks) (hk : KeyV X.K H k y) (dk : k.depth ≤ 8) (ry : RelV y u) (l : vM ks k = some v)
    (h : ∀ w' s', Inv X pins σ H s' → RelV v w' → Q w' s') : wpAny (model X.prog X.w) A (getItem (.ref d) u) Q E s := by
  obtain ⟨xs, M, hp⟩ := m.at_ I
  obtain ⟨w', hw, rw'⟩ := RelO.some_of (v := v) (o := (mGet xs k).map (·.2.2)) (by rw [← l]; exact rows_find hp k)
  unfold getItem
  try with_reducible refine wpAny_holding ?_
  refine wpAny_bind (wpAny_sequenceKey M.typeIs (by decide) ?_)
  refine wpAny_bind (wpAny_callSpecial?_slot (name := Str.ofString "__getitem__") M.typeIs slot_dict_getitem
    (wpAny_call_entry slot_dict_getitem M.typeIs entry_dict_getitem ?_ (args_dict_getitem _ _)))
  show wpAny _ _ (dictGet d u >>= _) _ _ s
  refine wpAny_bind (get_mix (by show A.units + 1 + 16 < _; omega) (KeyV.is I _ _ _ hk ry) dk M ?_)
  rw [hw]
  exact wpAny_pure ⟨w', rfl, wpAny_pure (h w' _ (I.tok _) rw')⟩
/-- y in d -/
theorem m_in {Q : Value → Shared → Prop} (hu : A.units + 40 < cLine) (I : Inv X pins σ H s) (m : Mx X.K H X.w d ks) (hk : KeyV X.K H k y) (dk : k.depth ≤ 8) (ry : RelV y u)
    (h : ∀ s', Inv X pins σ H s' → Q (.bool (vM ks k).isSome) s') : wpAny (model X.prog X.w) A (compareOp .In u (.ref d)) Q E s := by
  obtain ⟨xs, M, hp⟩ := m.at_ I
  have same := (rows_find hp k).isSome_eq
  show wpAny _ _ (do return .bool (← contains (.ref d) u)) Q E s
  refine wpAny_bind ?_
  unfold contains
  try with_reducible refine wpAny_holding ?_
  refine wpAny_bind (wpAny_specialOf M.typeIs slot_dict_contains.lookup ?_)
  show wpAny _ _ (if (some (Value.builtin "dict.__contains__") == some Value.none) = true then _ else _) _ E s
  rw [if_neg (by rw [beq_builtin_none]; exact Bool.false_ne_true)]
  refine wpAny_bind (wpAny_callSpecialUnlessNone?_slot (name := Str.ofString "__contains__") M.typeIs slot_dict_contains
    (wpAny_call_entry slot_dict_contains M.typeIs entry_dict_contains ?_ (args_dict_contains _ _)))
  show wpAny _ _ (dictGet d u >>= _) _ _ s
  refine wpAny_bind (get_mix (by show A.units + 1 + 16 < _; omega) (KeyV.is I _ _ _ hk ry) dk M ?_)
  cases hf : mGet xs k with
  | some r =>
    rw [hf] at same
    have z := h { s with toks := s.toks + k.draws } (I.tok _)
    rw [same] at z
    exact wpAny_pure ⟨_, rfl, wpAny_truthy_bool (wpAny_pure z)⟩
  | none =>
    rw [hf] at same
    have z := h { s with toks := s.toks + k.draws } (I.tok _)
    rw [same] at z
    show wpAny _ _ (Builtin.Dict.pendingKey? d u >>= _) _ _ _
    exact wpAny_bind (wpAny_pendingKey_other m.sys (wpAny_pure ⟨_, rfl, wpAny_truthy_bool (wpAny_pure z)⟩))
/-- the dict after the store -/
theorem pM_keys {ks : List Mv} {k : NestedKey} {kv y : V} : (pM ks k kv y).map (·.1) = if (vM ks k).isSome = true then ks.map (·.1) else ks.map (·.1) ++ [k] := by
  unfold pM
  split
  · rw [List.map_map]
    refine List.map_congr_left fun q _ => ?_
    show (if q.1 = k then (q.1, q.2.1, y) else q).1 = q.1
    split <;> rfl
  · simp
theorem vM_none {ks : List Mv} {k : NestedKey} (h : (vM ks k).isSome ≠ true) : k ∉ ks.map (·.1) := fun z => by
  obtain ⟨p, hp, e⟩ := List.mem_map.mp z
  refine h ?_
  unfold vM
  rw [Option.isSome_map, List.find?_isSome]
  exact ⟨p, hp, by simp [e]⟩
theorem pM_mem {ks : List Mv} {k : NestedKey} {kv y : V} {p : Mv} (h : p ∈ pM ks k kv y) : (∃ q ∈ ks, q.1 = p.1 ∧ q.2.1 = p.2.1) ∨ (p.1 = k ∧ p.2.1 = kv) := by
  unfold pM at h
  split at h
  · obtain ⟨q, hq, rfl⟩ := List.mem_map.mp h
    refine .inl ⟨q, hq, ?_⟩
    split <;> exact ⟨rfl, rfl⟩
  · rcases List.mem_append.mp h with z | z
    · exact .inl ⟨p, z, rfl, rfl⟩
    · rw [List.mem_singleton.mp z]
      exact .inr ⟨rfl, rfl⟩
theorem pM_len {ks : List Mv} {k : NestedKey} {kv y : V} : (pM ks k kv y).length ≤ ks.length + 1 := by
  unfold pM
  split
  · rw [List.length_map]
    omega
  · simp
/-- tuples stand while a locked dict is unlocked -/
theorem off_frz {K : PySem.W.Frag} {H : Hp} {d : Addr} {φ : Heap → Prop} {od : Obj} {ob : HO} (hd : H d = some (.frz od (.ext φ))) {a : Addr} {xs : List V} (h : SqT K H a xs) : SqT K (upd H d ob) a xs := by
  rcases h with (h | ⟨o, h⟩) | h
  · refine .inl (.inl ?_)
    rw [upd_ne (ne_of h hd (by intro z; cases z))]
    exact h
  · refine .inl (.inr ⟨o, ?_⟩)
    rw [upd_ne (ne_of h hd (by intro z; cases z))]
    exact h
  · exact .inr h
/-- tuples stand while a dict's object is another -/
theorem off_ext {K : PySem.W.Frag} {H : Hp} {d : Addr} {φ : Heap → Prop} {ob : HO} (hd : H d = some (.ext φ)) {a : Addr} {xs : List V} (h : SqT K H a xs) : SqT K (upd H d ob) a xs := by
  rcases h with (h | ⟨o, h⟩) | h
  · refine .inl (.inl ?_)
    rw [upd_ne (ne_of h hd (by intro z; cases z))]
    exact h
  · refine .inl (.inr ⟨o, ?_⟩)
    rw [upd_ne (ne_of h hd (by intro z; cases z))]
    exact h
  · exact .inr h
theorem Mx.put {K : PySem.W.Frag} {H : Hp} {w : World} (m : Mx K H w d ks) (ow : H d = some (mxo d w ks)) (hk : KeyV K H k y) (dk : k.depth ≤ 8) (hl : ks.length < 1000) : Mx K (upd H d (mxo d w (pM ks k y v))) w d (pM ks k y v) := by
  have off : ∀ {a : Addr} {xs : List V}, SqT K H a xs → SqT K (upd H d (mxo d w (pM ks k y v))) a xs := fun h => off_ext ow h
  refine ⟨.inl upd_same, fun p hp => ?_, ?_, ?_, m.sys⟩
  · rcases pM_mem hp with ⟨q, hq, e1, e2⟩ | ⟨e1, e2⟩
    · obtain ⟨h1, h2⟩ := m.key q hq
      rw [← e1, ← e2]
      exact ⟨KeyV.to off _ _ h1, h2⟩
    · rw [e1, e2]
      exact ⟨KeyV.to off _ _ hk, dk⟩
  · rw [pM_keys]
    split
    · exact m.one
    · rename_i g
      rw [List.nodup_append]
      refine ⟨m.one, by simp, fun x hx z hz e => ?_⟩
      rw [e, List.mem_singleton.mp hz] at hx
      exact vM_none g hx
  · have := pM_len (ks := ks) (k := k) (kv := y) (y := v)
    omega
/-- locked, unlocked -/
theorem Mx.lock {K : PySem.W.Frag} {H : Hp} {w : World} {od : Obj} (m : Mx K H w d ks) (ow : H d = some (mxo d w ks)) : Mx K (upd H d (.frz od (mxo d w ks))) w d ks :=
  ⟨.inr ⟨od, upd_same⟩, fun p hp => ⟨KeyV.to (fun g => off_ext ow g) _ _ (m.key p hp).1, (m.key p hp).2⟩, m.one, m.len, m.sys⟩
theorem Mx.unlock {K : PySem.W.Frag} {H : Hp} {w : World} {od : Obj} (m : Mx K H w d ks) (ow : H d = some (.frz od (mxo d w ks))) : Mx K (upd H d (mxo d w ks)) w d ks :=
  ⟨.inl upd_same, fun p hp => ⟨KeyV.to (fun g => off_frz ow g) _ _ (m.key p hp).1, (m.key p hp).2⟩, m.one, m.len, m.sys⟩
theorem m_setItem {Q : Unit → Shared → Prop} (hu : A.units + 40 < cLine) (I : Inv X pins σ H s) (m : Mx X.K H X.w d ks) (ow : H d = some (mxo d X.w ks)) (hk : KeyV X.K H k y) (dk : k.depth ≤ 8) (ry : RelV y u) (rv : RelV v r) (hl : ks.length < 1000)
    (h : ∀ s', Inv X pins σ (upd H d (mxo d X.w (pM ks k y v))) s' → Q () s') : wpAny (model X.prog X.w) A (setItem (.ref d) u r) Q E s := by
  obtain ⟨xs, M, hp⟩ := m.at_ I
  unfold setItem
  try with_reducible refine wpAny_holding ?_
  refine wpAny_bind (wpAny_sequenceKey M.typeIs (by decide) ?_)
  refine wpAny_bind (wpAny_callSpecial?_slot (name := Str.ofString "__setitem__") M.typeIs slot_dict_setitem
    (wpAny_call_entry slot_dict_setitem M.typeIs entry_dict_setitem ?_ (args_dict_setitem _ _ _)))
  show wpAny _ _ (Builtin.Dict.notOrdered "__setitem__" ⟨[.ref d, u, r], []⟩ >>= _) _ _ s
  refine wpAny_bind (wpAny_notOrdered_dict M.typeIs ?_)
  show wpAny _ _ (dictSet d u r >>= _) _ _ s
  have hz : xs.length ≤ sizeLine := by
    rw [← Paired.length hp]
    exact Nat.le_of_lt (small1000 m.len)
  refine wpAny_bind (set_mix (by show A.units + 1 + 16 < _; omega) (KeyV.is I _ _ _ hk ry) dk M hz fun h' M' hs => wpAny_pure ⟨.none, rfl, wpAny_pure (h _ ?_)⟩)
  obtain ⟨o, es, ep, ho, hx, hd, R⟩ := M'
  refine I.write (x := d) (e := d) (by rw [ow]; exact True.intro) (.inl rfl) (fun b q hb z => (hs.2 b hb).trans z) ⟨o, ho⟩ ?_
  refine ⟨⟨o, es, ep, _, ho, hx, hd, R.at_, rows_put hp k ry rv⟩, ⟨o, ho⟩, ?_⟩
  rintro h1 h2 ⟨o1, e1, p1, x1, a1, a2, a3, a4, a5⟩ st
  exact ⟨o1, e1, p1, x1, st _ a1, a2, a3, a4, a5⟩
theorem Mx.noDict (I : Inv X pins σ H s) (m : Mx X.K H X.w d ks) : s.TypeIs (.ref d) "dict" ∧ ∀ b, Value.ref d = .ref b → ∃ ob, s.heap.get? b = some ob ∧ ob.dict = none := by
  obtain ⟨xs, M, _⟩ := m.at_ I
  refine ⟨M.typeIs, fun b q => ?_⟩
  cases q
  obtain ⟨o, es, ep, ho, hx, _⟩ := M
  exact ⟨o, ho, hx.2.1⟩
end
theorem meetsM_get {prog : Program} {w : World} (d : Addr) (u dflt : Value) (hd : (d == sysModules) = false) : MeetsIn prog w (Builtin.«dict.get» ⟨[.ref d, u, dflt], []⟩)
    (fun A R s => A.units + 40 < cLine ∧ ∃ k xs, NestedIs s.heap k u ∧ k.depth ≤ 8 ∧ MixAt w s.heap d xs ∧ R (.ok (.ret (((mGet xs k).map (·.2.2)).getD dflt))) { s with toks := s.toks + k.draws }) :=
  .of_wp fun A R s ⟨hu, k, xs, hk, dk, M, h⟩ => by
    show wpAny _ _ (dictGet d u >>= _) _ _ s
    refine wpAny_bind (get_mix (by show A.units + 1 + 16 < _; omega) hk dk M ?_)
    cases hf : (mGet xs k).map (·.2.2) with
    | some z =>
      rw [hf] at h
      exact wpAny_pure ⟨z, rfl, h⟩
    | none =>
      rw [hf] at h
      show wpAny _ _ (Builtin.Dict.missed d u >>= _) _ _ _
      exact wpAny_bind (wpAny_missed_other hd (wpAny_pure ⟨dflt, rfl, h⟩))
/-! ### readings and rules -/
/-- d[y], y in d, d.get(y, x), d[y] = v of a dict of mixed keys -/
def rMIn (K : PySem.W.Frag) (w : World) : R2 := fun y x H Q => ∃ (d : Addr) (ks : List Mv) (k : NestedKey), x = .ref d ∧ Mx K H w d ks ∧ KeyV K H k y ∧ k.depth ≤ 8 ∧ Q (.bl (vM ks k).isSome) H
def tMGet (K : PySem.W.Frag) (w : World) (td ty : TE) : TE := fun σ H Q => td σ H fun x H1 => ty σ H1 fun y H2 => ∃ (d : Addr) (ks : List Mv) (k : NestedKey) (v : V), x = .ref d ∧ Mx K H2 w d ks ∧ KeyV K H2 k y ∧ k.depth ≤ 8 ∧ vM ks k = some v ∧ Q v H2
def tMGet2 (K : PySem.W.Frag) (w : World) (td ty tx : TE) : TE := fun σ H Q => td σ H fun x H1 => ∃ (d : Addr) (ks : List Mv), x = .ref d ∧ Mx K H1 w d ks ∧ ty σ H1 fun y H2 => tx σ H2 fun z H3 => ∃ (ks : List Mv) (k : NestedKey), Mx K H3 w d ks ∧ KeyV K H3 k y ∧ k.depth ≤ 8 ∧ Q ((vM ks k).getD z) H3
def sMPut (K : PySem.W.Frag) (w : World) (td ty tv : TE) : TS := fun D σ H => tv σ H fun v H1 => td σ H1 fun x H2 => ty σ H2 fun y H3 => ∃ (d : Addr) (ks : List Mv) (k : NestedKey), x = .ref d ∧ Mx K H3 w d ks ∧ H3 d = some (mxo d w ks) ∧ KeyV K H3 k y ∧ k.depth ≤ 8 ∧ ks.length < 1000 ∧
  D.nx σ (upd H3 d (mxo d w (pM ks k y v)))
section
variable {X : Cx} {o i e f value : Expr} {pos pos' apos cpos : Pos} {td ty tv tx : TE}
theorem op_inM {K : PySem.W.Frag} {w : World} (hu : X.A.units + 40 < cLine) (hK : X.K = K := by rfl) (hw : X.w = w := by rfl) : OpR X (compareOp .In) (rMIn K w) := by
  subst hK hw
  intro pins s σ H x y v u Q I rx ry h
  obtain ⟨d, ks, k, rfl, m, hk, dk, q⟩ := h
  obtain rfl := ry
  exact m_in hu I m hk dk rx fun s' I' => ⟨.bl _, H, I', rfl, q⟩
theorem pe_mget {K : PySem.W.Frag} {w : World} (hu : X.A.units + 40 < cLine) (ho : PE X o td) (hi : PE X i ty) (hs : NoSl i) (hK : X.K = K := by rfl) (hw : X.w = w := by rfl) : PE X (.Subscript o i pos) (tMGet K w td ty) := by
  subst hK hw
  refine ⟨fun pins s σ H Q I h => ?_⟩
  refine subD_of PySem.F.slot_dict_getitem.lookup hs (thn (ho.run pins s σ H _ I h) fun u s1 ⟨x, H1, I1, rx, q1⟩ => thn (hi.run pins s1 σ H1 _ I1 q1) fun iv s2 ⟨y, H2, I2, ry, d, ks, k, v, ex, m, hk, dk, l, q2⟩ => ?_)
  subst ex
  obtain rfl : u = Value.ref d := rx
  exact ⟨(m.noDict I2).1, m_getItem hu I2 m hk dk ry l fun w' s3 I3 rw' => ⟨v, H2, I3, rw', q2⟩⟩
theorem ps_mput {K : PySem.W.Frag} {w : World} (hu : X.A.units + 40 < cLine) (ho : PE X o td) (hi : PE X i ty) (hv : PE X value tv) (hs : swapsWith value (some (.Subscript o i pos')) pos.line X.env = pure false) (hK : X.K = K := by rfl) (hw : X.w = w := by rfl) :
    PS X (.Assign [.Subscript o i pos'] value pos) (sMPut K w td ty tv) := by
  subst hK hw
  refine ⟨fun pins s σ H D I h => ?_⟩
  refine wpAny_Assign_Subscript (thn (hv.run pins s σ H _ I h) fun r s1 ⟨v, H1, I1, rv, q1⟩ => thn (ho.run pins s1 σ H1 _ I1 q1) fun u s2 ⟨x, H2, I2, rx, q2⟩ => thn (hi.run pins s2 σ H2 _ I2 q2)
    fun iv s3 ⟨y, H3, I3, ry, d, ks, k, ex, m, ow, hk, dk, hl, q3⟩ => ?_) hs
  subst ex
  obtain rfl : u = Value.ref d := rx
  exact m_setItem hu I3 m ow hk dk ry rv hl fun s4 I4 => ⟨σ, _, I4, q3⟩
theorem pe_mget2 {K : PySem.W.Frag} {w : World} (hu : X.A.units + 40 < cLine) (ho : PE X o td) (he : PE X e ty) (hf : PE X f tx) (m : M2 X o "get" apos e f cpos) (hK : X.K = K := by rfl) (hw : X.w = w := by rfl) :
    PE X (.Call (.Attribute o "get" apos) [e, f] [] cpos) (tMGet2 K w td ty tx) := by
  subst hK hw
  refine ⟨fun pins s σ H Q I h => ?_⟩
  refine wpAny_Call_method m.base m.few m.line PySem.F.plainAttrs_dict PySem.F.slot_dict_get PySem.F.type_dict_get (thn (ho.run pins s σ H _ I h) fun u s1 ⟨x, H1, I1, rx, d, ks0, ex, m0, q1⟩ => ?_)
  subst ex
  obtain rfl : u = Value.ref d := rx
  obtain ⟨t1, t2⟩ := m0.noDict I1
  refine ⟨t1, t2, ?_⟩
  rw [m.trees]
  refine Calls.callWith_builtin rfl (Calls.evalArgs_plain (Calls.spliced_cons (thn (he.run pins s1 σ H1 _ I1 q1) fun iv s2 ⟨y, H2, I2, ry, q2⟩ =>
    Calls.spliced_cons (thn (hf.run pins s2 σ H2 _ I2 q2) fun fv s3 ⟨z, H3, I3, rz, ks, k, mm, hk, dk, q3⟩ => Calls.spliced_nil ?_))))
  obtain ⟨xs, M, hp⟩ := mm.at_ I3
  refine call_meetsIn PySem.F.slot_dict_get M.typeIs PySem.F.entry_dict_get (PySem.F.args_dict_get_3 _ _ _) (meetsM_get d iv fv mm.sys) ⟨hu, k, xs, KeyV.is I3 _ _ _ hk ry, dk, M, ?_⟩
  exact ⟨_, H3, I3.tok _, (rows_find hp k).getD rz, q3⟩
end
end L2.Vf
/-! Dicts of mixed keys: new ones, displays. -/
namespace L2.Vf
open PySem PySem.Spec PyProof.Rows
open Evl (Ex Ev EvT EvL EvA)
def mPuts (acc rows : List Mr) : List Mr := rows.foldl (fun acc r => mPut acc r.1 r.2.1 r.2.2) acc
def mergeM (acc ks : List Mv) : List Mv := ks.foldl (fun acc r => pM acc r.1 r.2.1 r.2.2) acc
theorem mPut_len (acc : List Mr) (k : NestedKey) (a b : Value) : (mPut acc k a b).length ≤ acc.length + 1 := by
  unfold mPut
  split
  · rw [List.length_map]
    omega
  · simp
theorem rows_puts : ∀ {ks : List Mv} {rows : List Mr} {acc : List Mv} {xs : List Mr}, Paired RowR ks rows → Paired RowR acc xs → Paired RowR (mergeM acc ks) (mPuts xs rows) := by
  intro ks rows acc xs h
  induction h generalizing acc xs with
  | nil => exact fun g => g
  | @cons p r ps rs hp _ ih =>
    intro g
    obtain ⟨e, h1, h2⟩ := hp
    have z := rows_put g p.1 h1 h2
    show Paired RowR (mergeM (pM acc p.1 p.2.1 p.2.2) ps) (mPuts (mPut xs r.1 r.2.1 r.2.2) rs)
    rw [← e]
    exact ih z
theorem mergeM_len : ∀ (ks acc : List Mv), (mergeM acc ks).length ≤ acc.length + ks.length
  | [], acc => by show acc.length ≤ acc.length + 0; omega
  | p :: r, acc => by
    have h1 := mergeM_len r (pM acc p.1 p.2.1 p.2.2)
    have h2 := pM_len (ks := acc) (k := p.1) (kv := p.2.1) (y := p.2.2)
    show (mergeM (pM acc p.1 p.2.1 p.2.2) r).length ≤ _
    rw [List.length_cons]
    omega
section
variable {prog : Program} {w : World} {A : Around} {E : Value → Shared → Prop}
theorem storeAll_mix {d : Addr} (hu : A.units + 16 < cLine) : ∀ (rows acc : List Mr) (s : Shared) (Q : PUnit → Shared → Prop), (∀ r ∈ rows, NestedIs s.heap r.1 r.2.1 ∧ r.1.depth ≤ 8) → MixAt w s.heap d acc → acc.length + rows.length ≤ sizeLine →
    (∀ h' tk, MixAt w h' d (mPuts acc rows) → Heap.SameBut d s.heap h' → Q PUnit.unit { s with heap := h', toks := tk }) →
    wpAny (model prog w) A (forIn (rows.map fun r => (r.2.1, r.2.2)) PUnit.unit fun (x : Value × Value) (_ : PUnit) => (do dictSet d x.1 x.2; pure (ForInStep.yield PUnit.unit) : Sem (ForInStep PUnit))) Q E s
  | [], acc, s, Q, _, M, _, hQ => by
    rw [List.map_nil, List.forIn_nil]
    exact wpAny_pure (hQ s.heap s.toks M (Heap.SameBut.refl _ _))
  | r :: rows, acc, s, Q, hk, M, hz, hQ => by
    rw [List.length_cons] at hz
    rw [List.map_cons, List.forIn_cons]
    obtain ⟨h1, h2⟩ := hk r List.mem_cons_self
    refine wpAny_bind (wpAny_bind (set_mix hu h1 h2 M (by omega) fun h' M' hs => wpAny_pure ?_))
    have le : (mPut acc r.1 (r.2.1, r.2.2).1 (r.2.1, r.2.2).2).length ≤ acc.length + 1 := mPut_len acc r.1 r.2.1 r.2.2
    obtain ⟨o, es, ep, ho, _, hd, _⟩ := M
    exact storeAll_mix hu rows _ _ Q (fun q hq => ⟨NestedIs.mut ho hd (fun b hb => hs.2 b hb) (hk q (List.mem_cons_of_mem _ hq)).1, (hk q (List.mem_cons_of_mem _ hq)).2⟩) M' (by omega)
      fun h'' tk M'' hs' => hQ h'' tk M'' (hs.trans hs')
theorem subDict_mix {s : Shared} {pairs : List (Sem Value × Sem Value)} {Q : Addr → Shared → Prop} (hu : A.units + 16 < cLine) (hlen : pairs.length ≤ 15)
    (h : wpAny (model prog w) A (evalPairs pairs) (fun vs s₁ => ∃ rows, vs = rows.map (fun r => (r.2.1, r.2.2)) ∧ (∀ r ∈ rows, NestedIs s₁.heap r.1 r.2.1 ∧ r.1.depth ≤ 8) ∧ MixAt w s₁.heap s.heap.objs.size [] ∧
      ∀ h' tk, MixAt w h' s.heap.objs.size (mPuts [] rows) → Heap.SameBut s.heap.objs.size s₁.heap h' → Q s.heap.objs.size { s₁ with heap := h', toks := tk }) E
      { s with heap := s.heap.push { cls := .type "dict", data := .dict #[] } }) : wpAny (model prog w) A (subDict pairs) Q E s := by
  unfold subDict
  refine wpAny_bind (wpAny_alloc (wpAny_bind (wpAny_holding ?_)))
  rw [if_pos hlen]
  refine wpAny_bind (wpAny_mono (wpAny_evalPairs_len h) (fun vs s1 hh => ?_) fun _ _ e => e)
  obtain ⟨hvl, rows, rfl, hk, M, hQ⟩ := hh
  rw [List.length_map] at hvl
  refine wpAny_holding ?_
  refine wpAny_bind (storeAll_mix hu rows [] s1 _ hk M ?_ fun h' tk M' hs => wpAny_pure (wpAny_pure (hQ h' tk M' hs)))
  rw [sizeLine_eq, List.length_nil]
  omega
end
theorem mxo_ok {P : Program} {w : World} {H : Hp} {h : Heap} {d : Addr} {ks : List Mv} {xs : List Mr} (M : MixAt w h d xs) (r : Paired RowR ks xs) : ObjOk P w H h d (mxo d w ks) := by
  obtain ⟨o, es, ep, ho, hx, hd, R⟩ := M
  refine ⟨⟨o, es, ep, _, ho, hx, hd, R.at_, r⟩, ⟨o, ho⟩, ?_⟩
  rintro h1 h2 ⟨o1, e1, p1, x1, a1, a2, a3, a4, a5⟩ st
  exact ⟨o1, e1, p1, x1, st _ a1, a2, a3, a4, a5⟩
theorem mix_new (w : World) (h : Heap) : MixAt w (h.push { cls := .type "dict", data := .dict #[] }) h.objs.size [] :=
  ⟨_, #[], 0, Heap.get?_push_size _ rfl, ⟨rfl, rfl, rfl⟩, rfl, rfl, (fun r z => by cases z), List.nodup_nil⟩
/-- {} -/
def tMNew (w : World) : TE := fun _ H Q => ∀ p, H p = none → (p == sysModules) = false → Q (.ref p) (upd H p (mxo p w []))
/-- {k: v, ..} -/
def tMDisp (K : PySem.W.Frag) (w : World) (trs : List (TE × TE)) : TE := fun σ H Q => ∀ p, H p = none → (p == sysModules) = false → tPairs trs σ (upd H p (mxo p w [])) fun ps H2 =>
  H2 p = some (mxo p w []) ∧ ∃ ks : List Mv, ps = ks.map (fun r => (r.2.1, r.2.2)) ∧ ks.length ≤ 15 ∧ (∀ r ∈ ks, KeyV K H2 r.1 r.2.1 ∧ r.1.depth ≤ 8) ∧ Q (.ref p) (upd H2 p (mxo p w (mergeM [] ks)))
theorem Mx.new {K : PySem.W.Frag} {H : Hp} {w : World} {p : Addr} (hs : (p == sysModules) = false) : Mx K (upd H p (mxo p w [])) w p [] :=
  ⟨.inl upd_same, (fun r z => by cases z), List.nodup_nil, Nat.zero_le _, hs⟩
/-- the dict of a display -/
theorem Mx.disp {K : PySem.W.Frag} {w : World} {p : Addr} (hs : (p == sysModules) = false) : ∀ (ks acc : List Mv) {H : Hp}, Mx K H w p acc → H p = some (mxo p w acc) → (∀ r ∈ ks, KeyV K H r.1 r.2.1 ∧ r.1.depth ≤ 8) → acc.length + ks.length ≤ 1000 →
    Mx K (upd H p (mxo p w (mergeM acc ks))) w p (mergeM acc ks)
  | [], acc, H, m, ow, _, _ => by
    have e : upd H p (mxo p w acc) = H := by
      funext c
      by_cases hc : c = p
      · rw [hc, upd_same, ow]
      · rw [upd_ne hc]
    show Mx K (upd H p (mxo p w acc)) w p acc
    rw [e]
    exact m
  | r :: ks, acc, H, m, ow, hk, hl => by
    rw [List.length_cons] at hl
    obtain ⟨h1, h2⟩ := hk r List.mem_cons_self
    have m1 := m.put (v := r.2.2) ow h1 h2 (by omega)
    have le := pM_len (ks := acc) (k := r.1) (kv := r.2.1) (y := r.2.2)
    have z := Mx.disp hs ks (pM acc r.1 r.2.1 r.2.2) m1 upd_same (fun q hq => ⟨KeyV.to (fun g => off_ext ow g) _ _ (hk q (List.mem_cons_of_mem _ hq)).1, (hk q (List.mem_cons_of_mem _ hq)).2⟩) (by omega)
    have e : ∀ ob, upd (upd H p (mxo p w (pM acc r.1 r.2.1 r.2.2))) p ob = upd H p ob := fun ob => by
      funext c
      by_cases hc : c = p
      · rw [hc, upd_same, upd_same]
      · rw [upd_ne hc, upd_ne hc, upd_ne hc]
    rw [e] at z
    exact z
section
variable {X : Cx} {pos : Pos} {K : PySem.W.Frag} {w : World}
theorem pe_mnew (hw : X.w = w := by rfl) : PE X (.Dict [] [] pos) (tMNew w) := by
  subst hw
  refine ⟨fun pins s σ H Q I h => ?_⟩
  refine wpAny_Dict_empty ⟨.ref s.heap.objs.size, _, I.laid (a := s.heap.objs.size) (o := mxo s.heap.objs.size X.w []) (t' := s.toks) (fun _ _ q => Heap.get?_push_of_some _ q) (Nat.le_refl _) (mxo_ok (mix_new X.w s.heap) .nil), rfl, ?_⟩
  refine h _ (I.hok.fresh (Nat.le_refl _)) ?_
  rw [beq_eq_false_iff_ne]
  exact Nat.ne_of_gt I.big
theorem pe_mdisp {keys : List (Option Expr)} {values : List Expr} {trs : List (TE × TE)} (hu : X.A.units + 40 < cLine) (h : PPs X pos keys values trs) (hall : keys.all (·.isSome) = true) (hl : keys.length = values.length) (h0 : keys ≠ [])
    (h15 : keys.length ≤ 15) (hK : X.K = K := by rfl) (hw : X.w = w := by rfl) : PE X (.Dict keys values pos) (tMDisp K w trs) := by
  subst hK hw
  refine ⟨fun pins s σ H Q I q => ?_⟩
  have hn := I.hok.fresh (Nat.le_refl s.heap.objs.size)
  have ns : (s.heap.objs.size == sysModules) = false := by
    rw [beq_eq_false_iff_ne]
    exact Nat.ne_of_gt I.big
  have I1 := I.laid (a := s.heap.objs.size) (o := mxo s.heap.objs.size X.w []) (h' := s.heap.push { cls := .type "dict", data := .dict #[] }) (t' := s.toks) (fun _ _ q => Heap.get?_push_of_some _ q) (Nat.le_refl _) (mxo_ok (mix_new X.w s.heap) .nil)
  have hlen := pairTrees_length keys values X.env pos hall hl
  rw [arm_eval_Dict, zip_pairTrees keys values X.env pos hall hl, dictDisplay_pairs _ (fun e => h0 (by rw [e] at hlen; exact List.length_eq_zero_iff.mp hlen.symm)) (by rw [hlen]; omega)]
  refine wpAny_bind (wpAny_standAt (wpAny_bind (subDict_mix (by omega) (by rw [hlen]; exact h15) (thn (h.run pins _ σ _ _ I1 (q _ hn ns)) fun ws s2 hh => ?_))))
  obtain ⟨ps, H2, I2, rel, e, ks, ep, lk, hk, q2⟩ := hh
  subst ep
  have rows : ∃ rs : List Mr, ws = rs.map (fun r => (r.2.1, r.2.2)) ∧ Paired RowR ks rs := by
    clear q2 hk lk e
    induction ks generalizing ws with
    | nil =>
      cases rel
      exact ⟨[], rfl, .nil⟩
    | cons r ks ih =>
      rw [List.map_cons] at rel
      cases rel with
      | @cons _ b _ bs hab t =>
        obtain ⟨rs, e1, e2⟩ := ih bs t
        exact ⟨(r.1, b.1, b.2) :: rs, by rw [e1]; rfl, .cons ⟨rfl, hab.1, hab.2⟩ e2⟩
  obtain ⟨rs, rfl, hp⟩ := rows
  have z : Mx X.K H2 X.w s.heap.objs.size [] := ⟨.inl e, (fun r z => by cases z), List.nodup_nil, Nat.zero_le _, ns⟩
  obtain ⟨xs, M, hx⟩ := z.at_ I2
  cases hx
  refine ⟨rs, rfl, fun r hr => ?_, M, fun h' tk M' hs => wpAny_pure ⟨.ref s.heap.objs.size, _, ?_, rfl, q2⟩⟩
  · obtain ⟨p, h1, h2⟩ := rows_mem hp r hr
    obtain ⟨h3, h4⟩ := hk p h1
    rw [h2.1] at h3 h4
    exact ⟨KeyV.is I2 _ _ _ h3 h2.2.1, h4⟩
  · obtain ⟨o, es, ep, ho, hrest⟩ := id M'
    exact I2.write (x := s.heap.objs.size) (e := s.heap.objs.size) (by rw [e]; exact True.intro) (.inl rfl) (fun b q hb z => (hs.2 b hb).trans z) ⟨o, ho⟩ (mxo_ok M' (rows_puts hp .nil))
end
end L2.Vf
/-! Dicts of mixed keys: walked, listed. -/
namespace L2.Vf
open PySem PySem.Spec PyProof.Rows
open Evl (Ex Ev EvT EvL EvA)
theorem paired_get {ks : List Mv} {xs : List Mr} (h : Paired RowR ks xs) {i : Nat} {p : Mv} (hp : ks[i]? = some p) : ∃ r, xs[i]? = some r ∧ RowR p r := by
  induction h generalizing i with
  | nil => simp at hp
  | @cons a b as bs hab _ ih =>
    cases i with
    | zero =>
      obtain rfl := Option.some.inj hp
      exact ⟨b, rfl, hab⟩
    | succ i =>
      obtain ⟨r, h1, h2⟩ := ih (i := i) (by simpa using hp)
      exact ⟨r, by simpa using h1, h2⟩
section
variable {X : Cx} {pins : List (Addr × Obj)} {σ : St} {H : Hp} {s : Shared} {d : Addr} {ks : List Mv} {o : Obj}
/-- what a locked dict's object is -/
theorem frz_mix (I : Inv X pins σ H s) (e : H d = some (.frz o (mxo d X.w ks))) : s.heap.get? d = some o ∧ o.ExactDict ∧ ∃ (es : Array DictEntry) (ep : Nat) (xs : List Mr), o.data = .dict es ep ∧ es.size = ks.length ∧ es.toList = xs.map (mEnt X.w) ∧ Paired RowR ks xs := by
  obtain ⟨h0, ⟨o', es, ep, xs, h1, h2, h3, h4, h5⟩, _, _⟩ := I.hok d _ e
  rw [h0] at h1
  cases h1
  refine ⟨h0, h2, es, ep, xs, h3, ?_, h4, h5⟩
  rw [← Array.length_toList, h4, List.length_map, Paired.length h5]
end
/-- the keys, from the first on -/
def Itm (d : Addr) (o : Obj) (w : World) (ks : List Mv) : It :=
  ⟨fun i H => H d = some (.frz o (mxo d w ks)) ∧ i < ks.length, fun i H x H' => H' = H ∧ ∃ p, ks[i]? = some p ∧ x = p.2.1, fun i H => H d = some (.frz o (mxo d w ks)) ∧ ks.length ≤ i⟩
section
variable {P : Program} {w : World} {K : PySem.W.Frag} {tg : Expr} {d : Addr} {o : Obj} {es : Array DictEntry} {ep : Nat}
theorem turn_mix {ks : List Mv} (it : Addr) (hod : o.data = .dict es ep) : Turn P w K tg (Itm d o w ks) [it] it (fun i h => h.IsKeyIter it d i ks.length ep) where
  mem := by simp
  obj := fun i h st b hb => by
    obtain rfl : b = it := by simpa using hb
    obtain ⟨oi, e, c, dd⟩ := st
    exact ⟨oi, e, fun v z => by rw [dd] at z; cases z⟩
  keep := fun i h h' st k => st.at fun oi e => k it (by simp) oi e
  item := by
    intro X hP hw hK hc i pins s σ H E I hf st hg
    subst hP hw hK
    obtain ⟨hd, hi⟩ := hg
    obtain ⟨f0, f1, f2, f3, f4, f5⟩ := hf it (by simp)
    obtain ⟨hgd, hx, es', ep', xs, hdt, hsz, he, hp⟩ := frz_mix I hd
    obtain ⟨rfl, rfl⟩ := dict_ep hod hdt
    obtain ⟨p, hkv⟩ : ∃ p, ks[i]? = some p := ⟨ks[i], List.getElem?_eq_getElem hi⟩
    obtain ⟨r, hr, hpr⟩ := paired_get hp hkv
    have hen : es'[i]? = some (mEnt X.w r) := by
      rw [← Array.getElem?_toList, he, List.getElem?_map, hr]
      rfl
    refine next_key_item st hgd hdt hsz hen fun h' st' sb => ?_
    have I1 : Inv X pins σ H { s with heap := h' } := I.turned (t' := s.toks) (fun b ob hb e => (sb.2 b hb).trans e) f0 f1 f3 f4 f5
    obtain ⟨oi, e, c, dd⟩ := id st'
    exact ⟨(mEnt X.w r).key, rfl, go_of (s := { s with heap := h' }) e c dd (by decide) ⟨p.2.1, H, I1, hpr.2.1, ⟨rfl, p, hkv, rfl⟩, st', fun b hb => (hf b hb).1⟩⟩
  done := by
    intro X hP hw hK hc i pins s σ H E I hf st hg
    subst hP hw hK
    obtain ⟨hd, hi⟩ := hg
    obtain ⟨f0, f1, f2, f3, f4, f5⟩ := hf it (by simp)
    obtain ⟨hgd, hx, es', ep', xs, hdt, hsz, he, hp⟩ := frz_mix I hd
    obtain ⟨rfl, rfl⟩ := dict_ep hod hdt
    exact next_key_end (I.ok.hd hc) st hgd hdt hsz hi fun h' eb => ⟨rfl, I.turned (t' := s.toks) (fun b ob hb e => eb b ob hb e) f0 f1 f3 f4 f5⟩
  self := fun A i s Q E st h => by
    refine wpAny_pyIter_slot st.typeIs F.slot_dict_keyiterator_iter (wpAny_call_entry F.slot_dict_keyiterator_iter st.typeIs F.entry_dict_keyiterator_iter ?_ (F.args_dict_keyiterator_iter_1 _))
    show wpAny _ _ (ret (.ref it)) _ _ s
    exact wpAny_pure ⟨_, rfl, "dict_keyiterator", _, st.typeIs, F.slot_dict_keyiterator_next.lookup, h⟩
end
/-- for k in d, d locked -/
def iMix (w : World) (td : TE) : TI := fun σ H R => td σ H fun x H1 => ∃ (d : Addr) (o : Obj) (ks : List Mv), x = .ref d ∧ (d == sysModules) = false ∧ H1 d = some (.frz o (mxo d w ks)) ∧ R (Itm d o w ks) H1
theorem pi_mix {X : Cx} {tg e : Expr} {td : TE} {w : World} (he : PE X e td) (hw : X.w = w := by rfl) : PI X tg e (iMix w td) := by
  subst hw
  refine ⟨fun pins s σ H R I h => ?_⟩
  refine thn (he.run pins s σ H _ I h) fun u s1 ⟨x, H1, I1, rx, d, o, ks, ex, hs, hd, q⟩ => ?_
  subst ex
  obtain rfl : u = Value.ref d := rx
  obtain ⟨hgd, hx, es, ep, xs, hdt, hsz, _, _⟩ := frz_mix I1 hd
  refine iter_keys hs hgd hx hdt (pi_one (tk := s1.toks) I1 _ (turn_mix _ hdt) ⟨_, Heap.get?_push_size _ rfl, rfl, ?_⟩ q)
  rw [hsz] <;> rfl
section
variable {d : Addr} {o : Obj} {w : World} {ks : List Mv}
theorem for_mix {g : TG} {tb : TS} {D : Ends} {σ : St} {H : Hp} (Pv : Nat → St → Hp → Prop) (h0 : Pv 0 σ H) (hl : ∀ i σ H, Pv i σ H → H d = some (.frz o (mxo d w ks)))
    (hs : ∀ i p σ H, ks[i]? = some p → Pv i σ H → g p.2.1 σ H fun σ2 H2 => tb { D with nx := Pv (i + 1), ct := Pv (i + 1), bk := D.nx } σ2 H2) (hd : ∀ σ H, Pv ks.length σ H → D.nx σ H) :
    ∃ W : Nat → Nat → St → Hp → Prop, (∃ m, W 0 m σ H) ∧ ∀ i m σ H, W i m σ H →
      ((Itm d o w ks).stop i H ∧ D.nx σ H) ∨ ((Itm d o w ks).go i H ∧ ∃ N : St → Hp → Prop, (∀ σ' H', N σ' H' → ∃ m', m' < m ∧ W (i + 1) m' σ' H') ∧ ∀ x H', (Itm d o w ks).yld i H x H' → g x σ H' fun σ2 H2 => tb { D with nx := N, ct := N, bk := D.nx } σ2 H2) := by
  refine ⟨fun i m σ H => m = ks.length - i ∧ i ≤ ks.length ∧ Pv i σ H, ⟨ks.length, by simp, Nat.zero_le _, h0⟩, ?_⟩
  rintro i m σ H ⟨rfl, hi, p⟩
  rcases Nat.lt_or_ge i ks.length with lt | ge
  · refine .inr ⟨⟨hl i σ H p, lt⟩, Pv (i + 1), fun σ' H' q => ⟨ks.length - (i + 1), by omega, rfl, lt, q⟩, fun x H' y => ?_⟩
    obtain ⟨rfl, r, hr, rfl⟩ := y
    exact hs i r σ _ hr p
  · have e : i = ks.length := by omega
    subst e
    exact .inl ⟨⟨hl _ σ H p, Nat.le_refl _⟩, hd σ H p⟩
theorem lc_mix {g : TG} {tt : TT} {te : TE} {vs : List Nat} {σ : St} {H1 : Hp} {D : Addr} {Qd : Hp → Prop} (Pv : Nat → Hp → Prop) (h0 : Pv 0 (upd H1 D (.lst []))) (hl : ∀ i H, Pv i H → H d = some (.frz o (mxo d w ks)))
    (hs : ∀ i p H, ks[i]? = some p → Pv i H → g p.2.1 (wipe σ vs) H fun σ2 H2 => wipe σ2 vs = wipe σ vs ∧ tt σ2 H2 fun b H3 =>
      if b = true then te σ2 H3 fun y H4 => ∃ acc, H4 D = some (.lst acc) ∧ acc.length < sizeLine ∧ Pv (i + 1) (upd H4 D (.lst (acc ++ [y]))) else Pv (i + 1) H3) (hd : ∀ H, Pv ks.length H → Qd H) :
    ∃ W : Nat → Nat → Hp → Prop, (∃ m, W 0 m (upd H1 D (.lst []))) ∧ ∀ i m H, W i m H →
      ((Itm d o w ks).stop i H ∧ Qd H) ∨ ((Itm d o w ks).go i H ∧ ∃ Nx : Hp → Prop, (∀ H', Nx H' → ∃ m', m' < m ∧ W (i + 1) m' H') ∧ ∀ x H', (Itm d o w ks).yld i H x H' → g x (wipe σ vs) H' fun σ2 H2 => wipe σ2 vs = wipe σ vs ∧ tt σ2 H2 fun b H3 =>
        if b = true then te σ2 H3 fun y H4 => ∃ acc, H4 D = some (.lst acc) ∧ acc.length < sizeLine ∧ Nx (upd H4 D (.lst (acc ++ [y]))) else Nx H3) := by
  refine ⟨fun i m H => m = ks.length - i ∧ i ≤ ks.length ∧ Pv i H, ⟨ks.length, by simp, Nat.zero_le _, h0⟩, ?_⟩
  rintro i m H ⟨rfl, hi, p⟩
  rcases Nat.lt_or_ge i ks.length with lt | ge
  · refine .inr ⟨⟨hl i H p, lt⟩, Pv (i + 1), fun H' q => ⟨ks.length - (i + 1), by omega, rfl, lt, q⟩, fun x H' y => ?_⟩
    obtain ⟨rfl, r, hr, rfl⟩ := y
    exact hs i r _ hr p
  · have e : i = ks.length := by omega
    subst e
    exact .inl ⟨⟨hl _ H p, Nat.le_refl _⟩, hd H p⟩
end
section
variable {prog : Program} {w : World} {A : Around} {d : Addr} {o : Obj} {es : Array DictEntry} {ep : Nat}
theorem walks_mix (hh : A.handled = none) (I : Addr) (hne : d ≠ I) (hod : o.data = .dict es ep) :
    Walks prog w A I [I, d] [I] es.size (fun i v => ∃ en, es[i]? = some en ∧ v = en.key) (fun i h => h.IsKeyIter I d i es.size ep ∧ h.get? d = some o) where
  sub := fun b hb => by simp at hb; simp [hb]
  frame := fun _ _ _ st hk => ⟨st.1.at fun q e => hk I (by simp) q e, hk d (by simp) o st.2⟩
  item := fun i s Q E hi st hQ => next_key_item st.1 st.2 hod rfl (Array.getElem?_eq_getElem hi) fun h' it' sb =>
    hQ _ h' s.toks ⟨_, Array.getElem?_eq_getElem hi, rfl⟩ ⟨it', (sb.2 d hne).trans st.2⟩ fun b q hb e => (sb.2 b (by simpa using hb)).trans e
  done := fun s Q E st hQ => next_key_end hh st.1 st.2 hod rfl (Nat.le_refl _) fun h' eb => hQ h' s.toks fun b q hb e => eb b q (by simpa using hb) e
  self := fun _ _ _ _ st hQ => wpAny_pyIter_keyiter st.1 hQ
theorem kdl_mix (lo : (d == sysModules) = false) (hx : o.ExactDict) (hod : o.data = .dict es ep) : PySem.W.KdlSrc prog w "dict" d d es.size (fun i v => ∃ en, es[i]? = some en ∧ v = en.key) (fun h => h.get? d = some o) where
  type := fun s hm => ⟨o, hm, hx.1⟩
  there := fun h hm => ⟨Heap.lt_size hm, Heap.lt_size hm⟩
  keep := fun h h' hm hk => hk d (.inl rfl) o hm
  notList := by decide
  notTuple := by decide
  hint := fun _ _ s _ hm hq => PySem.W.kdl_hint_dict ⟨o, hm, hx.1⟩ hq
  iter := fun _ s hh hm => ⟨_, _, (fun _ _ hq => iter_keys lo hm hx hod hq), walks_mix hh _ (Nat.ne_of_lt (Heap.lt_size hm)) hod, ⟨⟨_, Heap.get?_push_size _ rfl, rfl, rfl⟩, Heap.get?_push_of_some _ hm⟩⟩
end
theorem vals_rows {ks : List Mv} {xs : List Mr} (h : Paired RowR ks xs) : Vals (ks.map fun r => r.2.1) (xs.map fun r => r.2.1) := by
  induction h with
  | nil => exact .nil
  | cons hp _ ih => exact .cons hp.2.1 ih
/-- list(d): its keys -/
def rListM (K : PySem.W.Frag) (w : World) : List V → Hp → VK → Prop := fun xs H Q => ∃ (d : Addr) (ks : List Mv), xs = [.ref d] ∧ Mx K H w d ks ∧ ∀ p, H p = none → Q (.ref p) (upd H p (.lst (ks.map fun r => r.2.1)))
theorem call_listM {X : Cx} {K : PySem.W.Frag} {w : World} (hc : X.calm = true) (hK : X.K = K := by rfl) (hw : X.w = w := by rfl) : CallR X (.type "list") (rListM K w) := by
  subst hK hw
  intro pins s σ H xs us Q I r q
  obtain ⟨d, ks, ex, m, q⟩ := q
  subst ex
  obtain ⟨u, eu, rx⟩ := vals1 r
  subst eu
  cases rx
  obtain ⟨rows, ⟨o, es, ep, ho, hx, hd, R⟩, hp⟩ := m.at_ I
  have hz : es.size ≤ sizeLine := by
    rw [R.size, ← Paired.length hp]
    exact Nat.le_of_lt (small1000 m.len)
  refine PySem.W.kdl_call (kdl_mix m.sys hx hd) (I.ok.hd hc) ho hz fun h' tk acc c' hk hD hacc => ?_
  have ea : acc.toList = rows.map (fun r => r.2.1) := by
    apply List.ext_getElem?
    intro j
    rw [Array.getElem?_toList, List.getElem?_map]
    cases hj : acc[j]? with
    | none =>
      have := Array.getElem?_eq_none_iff.mp hj
      have e1 := hacc.1
      have e2 := R.size
      rw [List.getElem?_eq_none (by omega)]
      rfl
    | some v =>
      obtain ⟨en, h1, rfl⟩ := hacc.2 j v hj
      rw [R.get j] at h1
      cases hr : rows[j]? with
      | none => rw [hr] at h1; cases h1
      | some r =>
        rw [hr] at h1
        cases h1
        rfl
  have hv : Vals (ks.map fun r => r.2.1) acc.toList := by
    rw [ea]
    exact vals_rows hp
  refine ⟨.ref s.heap.objs.size, upd H s.heap.objs.size (.lst (ks.map fun r => r.2.1)), I.laid (t' := tk) hk (Nat.le_refl _) ⟨?_, acc.toList, c', hv, by rw [Array.toArray_toList]; exact hD⟩, rfl, q _ (I.hok.fresh (Nat.le_refl _))⟩
  rw [List.length_map]
  exact Nat.le_of_lt (small1000 m.len)
end L2.Vf
/-! Dicts of mixed keys: made of a list of pairs. -/
namespace L2.Vf
open PySem PySem.Spec PyProof.Rows
open Evl (Ex Ev EvT EvL EvA)
section
variable {prog : Program} {w : World} {A : Around} {E : Value → Shared → Prop}
theorem NestedIs.ext {h h' : Heap} {I : Addr} {k : NestedKey} {v : Value} (hI : ∃ oi, h.get? I = some oi ∧ ∀ vs n, oi.data ≠ .seq vs n) (st : ∀ b o, b ≠ I → h.get? b = some o → h'.get? b = some o) (x : NestedIs h k v) : NestedIs h' k v := by
  refine NestedIs.at (fun b o vs n hb hd => st b o (fun e => ?_) hb) k v x
  obtain ⟨oi, h1, h2⟩ := hI
  rw [e, h1] at hb
  cases hb
  exact h2 vs n hd
theorem MixAt.ext {h h' : Heap} {I d : Addr} {xs : List Mr} (hI : ∃ oi, h.get? I = some oi ∧ ∀ vs n, oi.data ≠ .seq vs n) (st : ∀ b o, b ≠ I → h.get? b = some o → h'.get? b = some o) (ne : d ≠ I) (M : MixAt w h d xs) : MixAt w h' d xs := by
  obtain ⟨o, es, ep, ho, hx, hd, R⟩ := M
  exact ⟨o, es, ep, st d o ne ho, hx, hd, R.at_, fun r hr => ⟨NestedIs.ext hI st (R.key r hr).1, (R.key r hr).2⟩, R.one⟩
theorem MixAt.keeps {h h' : Heap} {d : Addr} {xs : List Mr} (st : ∀ b o, h.get? b = some o → h'.get? b = some o) (M : MixAt w h d xs) : MixAt w h' d xs := by
  obtain ⟨o, es, ep, ho, hx, hd, R⟩ := M
  exact ⟨o, es, ep, st d o ho, hx, hd, R.at_, fun r hr => ⟨NestedIs.at (fun b q vs n hb _ => st b q hb) _ _ (R.key r hr).1, (R.key r hr).2⟩, R.one⟩
/-- a pair of the list -/
def PairAt (h : Heap) (S I : Addr) (x : Option Value) (r : Mr) : Prop := ∃ b : Addr, x = some (.ref b) ∧ b ≠ S ∧ b ≠ I ∧ IsTup h b #[r.2.1, r.2.2] ∧ NestedIs h r.1 r.2.1 ∧ r.1.depth ≤ 8
theorem upd_mix {R : Result → Shared → Prop} {S I l : Addr} {items : Array Value} {res : Value} (hu : A.units + 40 < cLine) (hh : A.handled = none) (hlI : l ≠ I) (hSI : S ≠ I) (hSl : S ≠ l) :
    ∀ (rest : List Mr) (i : Nat) (acc : List Mr) (ix : Int) (t : Tok) (s : Shared), items.size = i + rest.length → acc.length + rest.length ≤ sizeLine → (∀ (j : Nat) (r : Mr), rest[j]? = some r → PairAt s.heap S I items[i + j]? r) →
      s.heap.IsListIter I l i → s.heap.IsList l items → MixAt w s.heap S acc →
      (∀ h' tk, MixAt w h' S (mPuts acc rest) → (∀ b o, b ≠ S → b ≠ I → s.heap.get? b = some o → h'.get? b = some o) → R (.ok (.ret res)) { s with heap := h', toks := tk }) →
      codeAny (model prog w) A (.builtin "dict.update.loop" ⟨[.ref S, .ref I, .int ix t, res], []⟩) R s
  | [], i, acc, ix, t, s, hsz, hln, ht, hit, hl, M, hR => by
    refine codeAny_builtin ud_entry ?_
    rw [Around.under_plainId ud_plain _]
    show wpAny _ A.in1 (pyNext (.ref I) >>= _) _ _ s
    have hI : ∃ oi, s.heap.get? I = some oi ∧ ∀ vs n, oi.data ≠ .seq vs n := by
      obtain ⟨oi, h1, _, h2⟩ := hit
      exact ⟨oi, h1, fun vs n z => by rw [h2] at z; cases z⟩
    refine wpAny_bind (wpAny_pyNext_list_end (A := A.in1) hh hit hl (Array.getElem?_eq_none (Nat.le_of_eq hsz)) fun h' he => ?_)
    show wpAny _ A.in1 (Builtin.Dict.addKeywords S [] >>= _) _ _ _
    refine wpAny_bind (wpAny_pure (wpAny_pure ?_))
    exact hR h' s.toks (M.ext hI (fun b o hb e => he b o hb e) hSI) fun b o _ hb e => he b o hb e
  | r :: rest, i, acc, ix, t, s, hsz, hln, ht, hit, hl, M, hR => by
    obtain ⟨b, hb, hbS, hbI, htup, hk, dk⟩ := ht 0 r rfl
    rw [List.length_cons] at hsz hln
    have hI : ∃ oi, s.heap.get? I = some oi ∧ ∀ vs n, oi.data ≠ .seq vs n := by
      obtain ⟨oi, h1, _, h2⟩ := hit
      exact ⟨oi, h1, fun vs n z => by rw [h2] at z; cases z⟩
    refine codeAny_builtin ud_entry ?_
    rw [Around.under_plainId ud_plain _]
    show wpAny _ A.in1 (pyNext (.ref I) >>= _) _ _ s
    refine wpAny_bind (wpAny_pyNext_list_item (x := .ref b) hit hl (by simpa using hb) fun h1 hit1 hs1 => ?_)
    have k1 : ∀ c q, c ≠ I → s.heap.get? c = some q → h1.get? c = some q := fun c q hc e => hs1.extBut c q hc e
    have ht1 : IsTup h1 b #[r.2.1, r.2.2] := htup.extBut hs1.extBut hbI
    have hl1 : h1.IsList l items := hl.extBut hs1.extBut hlI
    have M1 := M.ext hI k1 hSI
    have hk1 := NestedIs.ext hI k1 hk
    obtain ⟨o, ho, hc, n, hd⟩ := id ht1
    show wpAny _ A.in1 (holding [Value.ref b] _ >>= _) _ _ _
    refine wpAny_bind (wpAny_holding ?_)
    refine wpAny_bind (wpAny_tryCatch ?_)
    unfold Builtin.Dict.pairItems
    refine wpAny_bind (wpAny_typeOf (T := "tuple") ⟨o, ho, hc⟩ ?_)
    rw [if_pos (by first | decide | rfl | simp)]
    refine wpAny_bind (wpAny_seqItems ho hd (wpAny_pure ?_))
    show wpAny _ A.in1 (holding [r.2.1, r.2.2] (dictSet S r.2.1 r.2.2)) _ _ _
    refine wpAny_holding (set_mix (s := { s with heap := h1 }) (by show A.units + 1 + 16 < _; omega) hk1 dk M1 (by omega) fun h2 M2 hs2 => ?_)
    have le := mPut_len acc r.1 r.2.1 r.2.2
    obtain ⟨oS, eS, pS, hoS, _, hdS, _⟩ := id M1
    have hS : ∃ oi, h1.get? S = some oi ∧ ∀ vs n, oi.data ≠ .seq vs n := ⟨oS, hoS, fun vs n z => by rw [hdS] at z; cases z⟩
    have k2 : ∀ c q, c ≠ S → h1.get? c = some q → h2.get? c = some q := fun c q hc e => (hs2.2 c hc).trans e
    refine wpAny_pure ⟨plainId_quiet ud_plain _, upd_mix (items := items) hu hh hlI hSI hSl rest (i + 1) (mPut acc r.1 r.2.1 r.2.2) (ix + 1) 0 _ (show items.size = i + 1 + rest.length by omega) (by omega) (fun j q e => ?_) ?_ ?_ M2 fun h' tk M' k => ?_⟩
    · obtain ⟨b', hb', hbS', hbI', htup', hk', dk'⟩ := ht (j + 1) q (by simpa using e)
      refine ⟨b', ?_, hbS', hbI', (htup'.extBut hs1.extBut hbI').extBut hs2.extBut hbS', NestedIs.ext hS k2 (NestedIs.ext hI k1 hk'), dk'⟩
      rw [show i + 1 + j = i + (j + 1) by omega]
      exact hb'
    · exact hit1.at fun o' e => hs2.extBut I o' (Ne.symm hSI) e
    · exact hl1.extBut hs2.extBut (Ne.symm hSl)
    · exact hR h' tk M' fun c oc h3 h4 e => k c oc h3 h4 (hs2.extBut c oc h3 (hs1.extBut c oc h4 e))
/-- dict(l) of a list of pairs -/
theorem dict_pairs_mix {s : Shared} {l : Addr} {ol : Obj} {items : Array Value} {n : Nat} {rows : List Mr} {Q : Value → Shared → Prop} (hu : A.units + 60 < cLine) (hh : A.handled = none) (hl : s.heap.get? l = some ol) (hc : ol.cls = .type "list") (hd : ol.dict = none)
    (hdat : ol.data = .seq items n) (hsz : items.size = rows.length) (hln : rows.length ≤ sizeLine)
    (ht : ∀ (j : Nat) (r : Mr), rows[j]? = some r → ∃ b : Addr, items[j]? = some (.ref b) ∧ IsTup s.heap b #[r.2.1, r.2.2] ∧ NestedIs s.heap r.1 r.2.1 ∧ r.1.depth ≤ 8)
    (h : ∀ h' tk, MixAt w h' s.heap.objs.size (mPuts [] rows) → (∀ b o, s.heap.get? b = some o → h'.get? b = some o) → Q (.ref s.heap.objs.size) { s with heap := h', toks := tk }) :
    wpAny (model prog w) A (call (.type "dict") [.ref l]) Q E s := by
  refine callType_codes (Q₁ := fun obj s₁ => obj = .ref s.heap.objs.size ∧ s₁ = { s with heap := s.heap.push { cls := .type "dict", data := .dict #[] } }) PySem.F.kt_called_dict (PySem.F.kt_typeCall_dict_1 _) PySem.F.entry_dict_init (kt_code_dict_new _ ⟨rfl, rfl⟩) ?_
  rintro obj s₁ ⟨rfl, rfl⟩
  have M0 := mix_new w s.heap
  have k0 : ∀ b o, s.heap.get? b = some o → (s.heap.push { cls := .type "dict", data := .dict #[] }).get? b = some o := fun b o e => Heap.get?_push_of_some _ e
  have hT : ({ s with heap := s.heap.push { cls := .type "dict", data := .dict #[] } } : Shared).TypeIs (.ref s.heap.objs.size) "dict" := MixAt.typeIs (s := { s with heap := s.heap.push { cls := .type "dict", data := .dict #[] } }) M0
  refine ⟨hT, PySem.F.args_dict_init_2 _ _, ?_⟩
  unfold Builtin.«dict.__init__»
  refine wpAny_bind ?_
  unfold Builtin.Dict.selfAndRest
  refine wpAny_bind (wpAny_notOrdered_dict hT ?_)
  show wpAny _ _ (pure (s.heap.objs.size, [Value.ref l])) _ _ _
  refine wpAny_pure ?_
  show wpAny _ _ (Builtin.Dict.updateFrom "dict.__init__" s.heap.objs.size (.ref l) [] .none) _ _ _
  unfold Builtin.Dict.updateFrom
  refine wpAny_bind (wpAny_typeOf (T := "list") ⟨ol, k0 _ _ hl, hc⟩ ?_)
  rw [if_pos (by first | decide | rfl | simp)]
  refine wpAny_bind (miss_list (k0 _ _ hl) hc hdat hd hh fun h1 tk1 hk1 => ?_)
  rw [if_pos (show (none : Option Value).isNone = true from rfl)]
  refine wpAny_bind (wpAny_rule ?_)
  have hl1 : h1.IsList l items := ⟨ol, hk1 _ _ (k0 _ _ hl), hc, n, hdat⟩
  have hS1 : s.heap.objs.size < h1.objs.size := by
    have e : (s.heap.push { cls := .type "dict", data := .dict #[] }).get? s.heap.objs.size = some { cls := .type "dict", data := .dict #[] } := Heap.get?_push_size _ rfl
    exact Heap.lt_size (hk1 _ _ e)
  refine wpAny_bind (wpAny_pyIter_list hl1 ?_)
  have k2 : ∀ b o, h1.get? b = some o → (h1.push { cls := .type "list_iterator", data := .fields #[.ref l, .int 0 0] }).get? b = some o := fun b o e => Heap.get?_push_of_some _ e
  have kk : ∀ b o, s.heap.get? b = some o → (h1.push { cls := .type "list_iterator", data := .fields #[.ref l, .int 0 0] }).get? b = some o := fun b o e => k2 _ _ (hk1 _ _ (k0 _ _ e))
  have hlt : l < s.heap.objs.size := Heap.lt_size hl
  have key := upd_mix (prog := prog) (w := w) (A := A.in1) (R := wants (fun r s₂ => r = .none ∧ Q (.ref s.heap.objs.size) s₂) E) (S := s.heap.objs.size) (I := h1.objs.size) (l := l) (items := items) (res := Value.none) (by show A.units + 1 + 40 < _; omega) hh
    (Nat.ne_of_lt (Nat.lt_trans hlt hS1)) (Nat.ne_of_lt hS1) (Nat.ne_of_gt hlt) rows 0 [] 0 0
    { s with heap := h1.push { cls := .type "list_iterator", data := .fields #[.ref l, .int 0 0] }, toks := tk1 } (by rw [hsz, Nat.zero_add]) (by rw [List.length_nil, Nat.zero_add]; exact hln)
    (fun j r e => by
      obtain ⟨b, e1, e2, e3, e4⟩ := ht j r e
      have hb : b < s.heap.objs.size := e2.lt
      exact ⟨b, by rw [Nat.zero_add]; exact e1, Nat.ne_of_lt hb, Nat.ne_of_lt (Nat.lt_trans hb hS1), e2.keeps kk, NestedIs.at (fun c q vs m hq _ => kk c q hq) _ _ e3, e4⟩)
    ⟨_, Heap.get?_push_size _ rfl, rfl, rfl⟩ (hl1.at fun o e => k2 _ _ e) ((M0.keeps hk1).keeps k2)
    (fun h' tk M' k => ⟨rfl, h h' tk M' fun b o e => k b o (Nat.ne_of_lt (Heap.lt_size e)) (Nat.ne_of_lt (Nat.lt_trans (Heap.lt_size e) hS1)) (kk _ _ e)⟩)
  first
    | exact wpAny_pure ⟨plainId_quiet ud_plain _, key⟩
    | exact wpAny_bind (wpAny_pure (wpAny_pure ⟨plainId_quiet ud_plain _, key⟩))
end
end L2.Vf
/-! Dicts of mixed keys: dict(pairs) as a rule; data that holds such dicts, and its repr. -/
namespace L2.Vf
open PySem PySem.Spec PyProof.Rows
open Evl (Ex Ev EvT EvL EvA)
def rDictM (K : PySem.W.Frag) (w : World) : List V → Hp → VK → Prop := fun xs H Q => ∃ (a : Addr) (ps : List Addr) (ks : List Mv), xs = [.ref a] ∧ SqL K H a (ps.map V.ref) ∧ Paired (fun p (r : Mv) => SqT K H p [r.2.1, r.2.2]) ps ks ∧
  (∀ r ∈ ks, KeyV K H r.1 r.2.1 ∧ r.1.depth ≤ 8) ∧ ks.length ≤ 1000 ∧ ∀ p, H p = none → (p == sysModules) = false → Q (.ref p) (upd H p (mxo p w (mergeM [] ks)))
section
variable {X : Cx} {pins : List (Addr × Obj)} {σ : St} {H : Hp} {s : Shared}
theorem pairs_mix (I : Inv X pins σ H s) : ∀ {ps : List Addr} {ks : List Mv}, Paired (fun p (r : Mv) => SqT X.K H p [r.2.1, r.2.2]) ps ks → (∀ r ∈ ks, KeyV X.K H r.1 r.2.1 ∧ r.1.depth ≤ 8) →
    ∃ rows : List Mr, Paired RowR ks rows ∧ rows.length = ps.length ∧ ∀ (j : Nat) (r : Mr), rows[j]? = some r → ∃ b : Addr, ps[j]? = some b ∧ IsTup s.heap b #[r.2.1, r.2.2] ∧ NestedIs s.heap r.1 r.2.1 ∧ r.1.depth ≤ 8
  | _, _, .nil, _ => ⟨[], .nil, rfl, fun j q e => by simp at e⟩
  | _, _, .cons (a := p) (b := kv) h t, hk => by
    obtain ⟨rows, r, hl, hp⟩ := pairs_mix I t fun q hq => hk q (List.mem_cons_of_mem _ hq)
    obtain ⟨its, rv, ht, _⟩ := I.tuple h
    obtain ⟨u, y, ei, ru, ry⟩ := vals2 rv
    subst ei
    obtain ⟨h3, h4⟩ := hk kv List.mem_cons_self
    refine ⟨(kv.1, u, y) :: rows, .cons ⟨rfl, ru, ry⟩ r, by rw [List.length_cons, List.length_cons, hl], fun j q e => ?_⟩
    cases j with
    | zero =>
      obtain rfl : (kv.1, u, y) = q := Option.some.inj e
      exact ⟨p, rfl, ht, KeyV.is I _ _ _ h3 ru, h4⟩
    | succ j =>
      obtain ⟨b, e1, e2⟩ := hp j q (by simpa using e)
      exact ⟨b, by simpa using e1, e2⟩
theorem call_dictM {K : PySem.W.Frag} {w : World} (hu : X.A.units + 60 < cLine) (hc : X.calm = true) (hK : X.K = K := by rfl) (hw : X.w = w := by rfl) : CallR X (.type "dict") (rDictM K w) := by
  subst hK hw
  intro pins s σ H xs us Q I r q
  obtain ⟨a, ps, ks, ex, hq, hp, hk, hz, q⟩ := q
  subst ex
  obtain ⟨u, eu, rx⟩ := vals1 r
  subst eu
  cases rx
  obtain ⟨its, rv, pl, _⟩ := I.list hq
  have ei := refs_at rv
  subst ei
  obtain ⟨rows, rel, hl, hpr⟩ := pairs_mix I hp hk
  obtain ⟨o, n, ho, hcl, hd, hdat⟩ := pl
  have hlen : rows.length ≤ 1000 := by
    rw [← Paired.length rel]
    exact hz
  refine dict_pairs_mix (rows := rows) hu (I.ok.hd hc) ho hcl hd hdat (by simp [hl]) (Nat.le_of_lt (small1000 hlen)) (fun j r' e => ?_) fun h' tk M k => ?_
  · obtain ⟨b, e1, e2⟩ := hpr j r' e
    exact ⟨b, by simp [e1], e2⟩
  · refine ⟨.ref s.heap.objs.size, upd H s.heap.objs.size (mxo s.heap.objs.size X.w (mergeM [] ks)), I.laid (t' := tk) k (Nat.le_refl _) (mxo_ok M (rows_puts rel .nil)), rfl, q _ (I.hok.fresh (Nat.le_refl _)) ?_⟩
    exact beq_eq_false_iff_ne.mpr (Nat.ne_of_gt I.big)
end
/-! ### data -/
mutual
inductive Dr (K : PySem.W.Frag) (w : World) (H : Hp) : V → PyData → Prop
  | non : Dr K w H .non .none
  | bl (b : Bool) : Dr K w H (.bl b) (.bool b)
  | int (i : Int) : Dr K w H (.int i) (.int i)
  | str (x : Str) : Dr K w H (.str x) (.str x)
  | lst {a : Addr} {xs : List V} {ds : List PyData} : a ≠ sysModules → SqL K H a xs → DrAll K w H xs ds → Dr K w H (.ref a) (.list ds)
  | tup {a : Addr} {xs : List V} {ds : List PyData} : SqT K H a xs → DrAll K w H xs ds → Dr K w H (.ref a) (.tuple ds)
  | dct {d : Addr} {ks : List Mv} {es : List (PyData × PyData)} : Mx K H w d ks → DrKv K w H ks es → Dr K w H (.ref d) (.dict es)
inductive DrAll (K : PySem.W.Frag) (w : World) (H : Hp) : List V → List PyData → Prop
  | nil : DrAll K w H [] []
  | cons {v : V} {vs : List V} {d : PyData} {ds : List PyData} : Dr K w H v d → DrAll K w H vs ds → DrAll K w H (v :: vs) (d :: ds)
inductive DrKv (K : PySem.W.Frag) (w : World) (H : Hp) : List Mv → List (PyData × PyData) → Prop
  | nil : DrKv K w H [] []
  | cons {p : Mv} {ks : List Mv} {k v : PyData} {es : List (PyData × PyData)} : Dr K w H p.2.1 k → Dr K w H p.2.2 v → DrKv K w H ks es → DrKv K w H (p :: ks) ((k, v) :: es)
end
mutual
theorem Dr.mono {K : PySem.W.Frag} {w : World} {H H' : Hp} (e : Ex H H') : ∀ (d : PyData) (v : V), Dr K w H v d → Dr K w H' v d
  | .none, _, h => by cases h; exact .non
  | .bool b, _, h => by cases h; exact .bl b
  | .int i, _, h => by cases h; exact .int i
  | .str x, _, h => by cases h; exact .str x
  | .list ds, _, h => by
    cases h with
    | lst hn hs ha => exact .lst hn (Evl.ex_l e hs) (DrAll.mono e ds _ ha)
  | .tuple ds, _, h => by
    cases h with
    | tup hs ha => exact .tup (Evl.ex_t e hs) (DrAll.mono e ds _ ha)
  | .dict es, _, h => by
    cases h with
    | dct hs ha => exact .dct (hs.mono e) (DrKv.mono e es _ ha)
theorem DrAll.mono {K : PySem.W.Frag} {w : World} {H H' : Hp} (e : Ex H H') : ∀ (ds : List PyData) (vs : List V), DrAll K w H vs ds → DrAll K w H' vs ds
  | [], _, h => by cases h; exact .nil
  | d :: ds, _, h => by
    cases h with
    | cons h1 h2 => exact .cons (Dr.mono e d _ h1) (DrAll.mono e ds _ h2)
theorem DrKv.mono {K : PySem.W.Frag} {w : World} {H H' : Hp} (e : Ex H H') : ∀ (es : List (PyData × PyData)) (ks : List Mv), DrKv K w H ks es → DrKv K w H' ks es
  | [], _, h => by cases h; exact .nil
  | (k, v) :: es, _, h => by
    cases h with
    | cons h1 h2 h3 => exact .cons (Dr.mono e k _ h1) (Dr.mono e v _ h2) (DrKv.mono e es _ h3)
end
section
variable {X : Cx} {pins : List (Addr × Obj)} {σ : St} {H : Hp} {s : Shared}
mutual
theorem Dr.reads (I : Inv X pins σ H s) : ∀ (d : PyData) (v : V) (u : Value), Dr X.K X.w H v d → RelV v u → ∃ as, Reads s.heap u d as ∧ sysModules ∉ as
  | .none, _, _, h, r => by
    cases h
    cases r
    exact ⟨_, .none, by simp⟩
  | .bool b, _, _, h, r => by
    cases h
    cases r
    exact ⟨_, .bool b, by simp⟩
  | .int i, _, _, h, r => by
    cases h
    obtain ⟨t, rfl⟩ := r
    exact ⟨_, .int i t, by simp⟩
  | .str x, _, _, h, r => by
    cases h
    obtain ⟨t, rfl⟩ := r
    exact ⟨_, .str x t, by simp⟩
  | .list ds, _, _, h, r => by
    cases h with
    | lst na hq ha =>
      cases r
      obtain ⟨its, rv, ⟨o, n, ho, hc, _, hd⟩, _⟩ := I.list hq
      obtain ⟨as, hr, hn⟩ := DrAll.reads I ds _ its ha rv
      refine ⟨_, Reads.list ho hc hd hr, fun z => ?_⟩
      rcases List.mem_cons.mp z with z | z
      · exact na z.symm
      · exact hn z
  | .tuple ds, _, _, h, r => by
    cases h with
    | tup hq ha =>
      cases r
      obtain ⟨its, rv, ⟨o, ho, hc, n, hd⟩, _⟩ := I.tuple hq
      obtain ⟨as, hr, hn⟩ := DrAll.reads I ds _ its ha rv
      exact ⟨_, Reads.tuple ho hc hd hr, hn⟩
  | .dict es, _, _, h, r => by
    cases h with
    | dct m ha =>
      cases r
      obtain ⟨rows, ⟨o, en, ep, ho, hx, hd, R⟩, hp⟩ := m.at_ I
      obtain ⟨as, bs, k1, k2, n1, n2⟩ := DrKv.reads I es _ _ ha hp
      have e1 : en.toList.map (·.key) = rows.map (fun r => r.2.1) := by
        rw [R.at_, List.map_map]
        rfl
      have e2 : en.toList.map (·.val) = rows.map (fun r => r.2.2) := by
        rw [R.at_, List.map_map]
        rfl
      refine ⟨_, Reads.dict ho hx.1 hd (by rw [e1]; exact k1) (by rw [e2]; exact k2), fun z => ?_⟩
      rcases List.mem_append.mp z with z | z
      · rcases List.mem_cons.mp z with z | z
        · have := m.sys
          rw [← z] at this
          simp at this
        · exact n1 z
      · exact n2 z
theorem DrAll.reads (I : Inv X pins σ H s) : ∀ (ds : List PyData) (vs : List V) (us : List Value), DrAll X.K X.w H vs ds → Vals vs us → ∃ as, ReadsAll s.heap us ds as ∧ sysModules ∉ as
  | [], _, _, h, r => by
    cases h
    cases r
    exact ⟨_, .nil, by simp⟩
  | d :: ds, _, _, h, r => by
    cases h with
    | cons h1 h2 =>
      cases r with
      | cons r1 r2 =>
        obtain ⟨as, q1, n1⟩ := Dr.reads I d _ _ h1 r1
        obtain ⟨bs, q2, n2⟩ := DrAll.reads I ds _ _ h2 r2
        refine ⟨_, .cons q1 q2, fun z => ?_⟩
        rcases List.mem_append.mp z with z | z
        · exact n1 z
        · exact n2 z
theorem DrKv.reads (I : Inv X pins σ H s) : ∀ (es : List (PyData × PyData)) (ks : List Mv) (rows : List Mr), DrKv X.K X.w H ks es → Paired RowR ks rows →
    ∃ as bs, ReadsAll s.heap (rows.map fun r => r.2.1) (es.map (·.1)) as ∧ ReadsAll s.heap (rows.map fun r => r.2.2) (es.map (·.2)) bs ∧ sysModules ∉ as ∧ sysModules ∉ bs
  | [], _, _, h, r => by
    cases h
    cases r
    exact ⟨_, _, .nil, .nil, by simp, by simp⟩
  | (k, v) :: es, _, _, h, r => by
    cases h with
    | cons h1 h2 h3 =>
      cases r with
      | cons r1 r2 =>
        obtain ⟨a1, q1, n1⟩ := Dr.reads I k _ _ h1 r1.2.1
        obtain ⟨a2, q2, n2⟩ := Dr.reads I v _ _ h2 r1.2.2
        obtain ⟨as, bs, q3, q4, n3, n4⟩ := DrKv.reads I es _ _ h3 r2
        refine ⟨_, _, .cons q1 q3, .cons q2 q4, fun z => ?_, fun z => ?_⟩
        · rcases List.mem_append.mp z with z | z
          · exact n1 z
          · exact n3 z
        · rcases List.mem_append.mp z with z | z
          · exact n2 z
          · exact n4 z
end
/-- repr of such data -/
def rReprM (K : PySem.W.Frag) (w : World) : List V → Hp → VK → Prop := fun xs H Q => ∃ (a : Addr) (d : PyData), xs = [.ref a] ∧ Dr K w H (.ref a) d ∧ d.showable = true ∧ d.depth ≤ 150 ∧ d.shown.length ≤ sizeLine ∧ Q (.str d.shown) H
theorem call_reprM {K : PySem.W.Frag} {w : World} (hg : X.A.guards = some []) (hu : X.A.units + 190 < cLine) (hK : X.K = K := by rfl) (hw : X.w = w := by rfl) : CallR X (.builtin "repr") (rReprM K w) := by
  subst hK hw
  intro pins s σ H xs us Q I r h
  obtain ⟨a, d, rfl, hd, sh, dp, sz, q⟩ := h
  cases r with
  | cons rx rr =>
    cases rr
    obtain rfl := rx
    obtain ⟨as, hr, hn⟩ := Dr.reads I d _ _ hd rfl
    refine repr_of_reads' hr sh (fun _ => hn) hg (by omega) (fun _ _ z => z) (fun h' u tk hk => ?_) sz
    exact ⟨.str d.shown, H, I.kept (t' := tk) hk, ⟨u, rfl⟩, q⟩
end
end L2.Vf
/-! A source of draws; what stands away from what is written. -/
namespace L2.Vf
open PySem PySem.Spec PyProof.Rows
open Evl (Ex Ev EvT EvL EvA)
/-- the heap without what is written -/
def hide (S : List Addr) (H : Hp) : Hp := fun b => if b ∈ S then none else H b
/-- all but S stays -/
def But (S : List Addr) (H H' : Hp) : Prop := Ex (hide S H) (hide S H')
/-- S is there -/
def Kn (S : List Addr) (H : Hp) : Prop := ∀ b ∈ S, ∃ o, H b = some o
section
variable {K : PySem.W.Frag} {w : World} {σ : St} {H H' H1 H2 : Hp} {S T : List Addr} {q : Addr} {ta : TA} {te : TE} {d : PyData} {ds : List PyData} {v : V}
theorem hide_off (h : q ∉ S) : hide S H q = H q := if_neg h
theorem hide_ex : Ex (hide S H) H := fun b o h => by
  by_cases z : b ∈ S
  · rw [hide, if_pos z] at h
    cases h
  · rwa [hide, if_neg z] at h
theorem But.refl : But S H H := Ex.refl _
theorem But.trans (a : But S H H1) (b : But S H1 H2) : But S H H2 := Ex.trans a b
theorem But.of (e : Ex H H') : But S H H' := fun b o h => by
  by_cases z : b ∈ S
  · rw [hide, if_pos z] at h
    cases h
  · rw [hide, if_neg z] at h ⊢
    exact e b o h
theorem But.get (e : But S H H') {b : Addr} {o : HO} (n : b ∉ S) (h : H b = some o) : H' b = some o := by
  have z := e b o (by rw [hide_off n]; exact h)
  rwa [hide_off n] at z
theorem But.by (h : ∀ b o, b ∉ S → H b = some o → H' b = some o) : But S H H' := fun b o hb => by
  by_cases z : b ∈ S
  · rw [hide, if_pos z] at hb
    cases hb
  · rw [hide, if_neg z] at hb ⊢
    exact h b o z hb
theorem But.more (h : ∀ b ∈ S, b ∈ T) (e : But S H H') : But T H H' := But.by fun b o n hb => e.get (fun z => n (h b z)) hb
theorem But.mut {o : HO} (e : But S H H') (n : H q = none) : But S H (upd H' q o) := But.by fun b o' hb h => by
  rw [upd_ne (ne_of_none h n)]
  exact e.get hb h
theorem Kn.ex (k : Kn S H) (e : Ex H H') : Kn S H' := fun b hb => by
  obtain ⟨o, h⟩ := k b hb
  exact ⟨o, e _ _ h⟩
theorem Kn.off (k : Kn S H) (n : H q = none) : q ∉ S := fun z => by
  obtain ⟨o, h⟩ := k q z
  rw [h] at n
  cases n
theorem hide_new {o : HO} (k : Kn S H) (n : H q = none) : hide S (upd H q o) q = some o := by
  rw [hide_off (k.off n), upd_same]
/-- this data, away from S -/
def dq (K : PySem.W.Frag) (w : World) (S : List Addr) (d : PyData) : Pr := fun v H => Dr K w (hide S H) v d
theorem dq.but (e : But S H H') (h : dq K w S d v H) : dq K w S d v H' := Dr.mono e d v h
theorem mono_dq : Mono (dq K w S d) := fun v H H' e h => Dr.mono (But.of e) d v h
theorem dqAll_map : ∀ {ds : List PyData} {vs : List V}, AllP (ds.map (dq K w S)) vs H → DrAll K w (hide S H) vs ds
  | [], [], _ => .nil
  | _ :: _, _ :: _, h => .cons h.1 (dqAll_map h.2)
  | [], _ :: _, h => h.elim
  | _ :: _, [], h => h.elim
theorem evp_dqC {x : V} (h : EvP te σ H (is x)) (hd : ∀ H', Dr K w H' x d) : EvP te σ H (dq K w S d) := h.to fun v H' _ hv => by
  obtain rfl : v = x := hv
  exact hd _
theorem evs_dq (h : EvP te σ H (dq K w S d)) (hr : EvPs ta σ H (ds.map (dq K w S))) : EvPs (tCons te ta) σ H ((d :: ds).map (dq K w S)) := evs_cons h mono_dq hr
theorem evp_dqL (k : Kn S H) (h : EvPs ta σ H (ds.map (dq K w S))) (hl : ds.length ≤ 1000) : EvP (tLstN ta) σ H (dq K w S (.list ds)) := fun H1 e Q q0 =>
  h H1 e _ fun vs H2 e2 a => ⟨Nat.le_of_lt (small1000 (by rw [a.len, List.length_map]; exact hl)), fun r hr nr =>
    q0 (.ref r) _ (e2.trans (Ex.new hr)) (.lst nr (SqL.of (hide_new (k.ex (e.trans e2)) hr)) (DrAll.mono (But.of (Ex.new hr)) ds _ (dqAll_map a)))⟩
theorem evp_dqT (k : Kn S H) (h : EvPs ta σ H (ds.map (dq K w S))) (hl : ds.length ≤ 1000) : EvP (tTup ta) σ H (dq K w S (.tuple ds)) := fun H1 e Q q0 =>
  h H1 e _ fun vs H2 e2 a => ⟨Nat.le_of_lt (small1000 (by rw [a.len, List.length_map]; exact hl)), fun r hr =>
    q0 (.ref r) _ (e2.trans (Ex.new hr)) (.tup (SqT.of (hide_new (k.ex (e.trans e2)) hr)) (DrAll.mono (But.of (Ex.new hr)) ds _ (dqAll_map a)))⟩
theorem sub_lst {vv : V} (h : Dr K w H vv (.list ds)) : ∃ a xs, vv = .ref a ∧ SqL K H a xs ∧ DrAll K w H xs ds := by
  cases h with
  | lst _ h1 h2 => exact ⟨_, _, rfl, h1, h2⟩
theorem sub_tup {vv : V} (h : Dr K w H vv (.tuple ds)) : ∃ a xs, vv = .ref a ∧ SqT K H a xs ∧ DrAll K w H xs ds := by
  cases h with
  | tup h1 h2 => exact ⟨_, _, rfl, h1, h2⟩
theorem drAll_len : ∀ {ds : List PyData} {vs : List V}, DrAll K w H vs ds → vs.length = ds.length
  | [], _, h => by cases h; rfl
  | d :: ds, _, h => by
    cases h with
    | cons _ h2 => rw [List.length_cons, List.length_cons, drAll_len h2]
theorem drAll_get : ∀ {ds : List PyData} {vs : List V} {j : Nat} {d : PyData}, DrAll K w H vs ds → ds[j]? = some d → ∃ v, vs[j]? = some v ∧ Dr K w H v d
  | d :: ds, _, 0, _, h, e => by
    cases h with
    | cons h1 _ =>
      obtain rfl := Option.some.inj e
      exact ⟨_, rfl, h1⟩
  | d :: ds, _, j + 1, _, h, e => by
    cases h with
    | cons _ h2 =>
      obtain ⟨v, h3, h4⟩ := drAll_get (j := j) h2 (by simpa using e)
      exact ⟨v, by simpa using h3, h4⟩
  | [], _, _, _, _, e => by simp at e
end
/-! ### the source -/
/-- the source's entries -/
abbrev sKv (c : Addr) (l m t : Int) : List (Key × V) := [(.inr "cells", .ref c), (.inr "left", .int l), (.inr "mixed", .int m), (.inr "turn", .int t)]
/-- the source of draws at p, its cells at c -/
def Src (H : Hp) (p c : Addr) : Prop := ∃ (cells : List Int) (l m t : Int), H p = some (.dK (sKv c l m t)) ∧ H c = some (.lst (cells.map V.int))
section
variable {H H' : Hp} {p c : Addr} {l m t : Int}
theorem Src.ex (h : Src H p c) (e : Ex H H') : Src H' p c := by
  obtain ⟨cells, l, m, t, h1, h2⟩ := h
  exact ⟨cells, l, m, t, e _ _ h1, e _ _ h2⟩
theorem Src.off {q : Addr} {o : HO} (h : Src H p c) (n : q ∉ [p, c]) : Src (upd H q o) p c := by
  obtain ⟨cells, l, m, t, h1, h2⟩ := h
  exact ⟨cells, l, m, t, by rw [upd_ne (fun z => n (by rw [← z]; simp))]; exact h1, by rw [upd_ne (fun z => n (by rw [← z]; simp))]; exact h2⟩
theorem Src.kn (h : Src H p c) : Kn [p, c] H := fun b hb => by
  obtain ⟨cells, l, m, t, h1, h2⟩ := h
  simp only [List.mem_cons, List.not_mem_nil, or_false] at hb
  rcases hb with rfl | rfl
  · exact ⟨_, h1⟩
  · exact ⟨_, h2⟩
theorem g_cells (h : H p = some (.dK (sKv c l m t))) : DGet H p (.str "cells") (some (.ref c)) := DGet.k (k := Sum.inr "cells") h
theorem g_left (h : H p = some (.dK (sKv c l m t))) : DGet H p (.str "left") (some (.int l)) := DGet.k (k := Sum.inr "left") h
theorem g_mixed (h : H p = some (.dK (sKv c l m t))) : DGet H p (.str "mixed") (some (.int m)) := DGet.k (k := Sum.inr "mixed") h
theorem g_turn (h : H p = some (.dK (sKv c l m t))) : DGet H p (.str "turn") (some (.int t)) := DGet.k (k := Sum.inr "turn") h
theorem p_left (h : H p = some (.dK (sKv c l m t))) (x : Int) : DPut H p (.str "left") (.int x) (upd H p (.dK (sKv c x m t))) :=
  DPut.k (k := Sum.inr "left") h (small1000 (by show (4 : Nat) ≤ 1000; decide))
theorem p_turn (h : H p = some (.dK (sKv c l m t))) (x : Int) : DPut H p (.str "turn") (.int x) (upd H p (.dK (sKv c l m x))) :=
  DPut.k (k := Sum.inr "turn") h (small1000 (by show (4 : Nat) ≤ 1000; decide))
end
/-- how many cells are left -/
def lenAt (c : Addr) (H : Hp) : Nat := match H c with
  | some (.lst xs) => xs.length
  | _ => 0
def spSource (K : PySem.W.Frag) : Sp := fun vs H Q _ => ∃ (a : Addr) (ns : List Int), vs = [.ref a] ∧ SqL K H a (ns.map V.int) ∧ ns.length ≤ 63 ∧
  ∀ p c H', H p = none → H c = none → Ex H H' → Src H' p c → Q (.ref p) H'
def spPick : Sp := fun vs H Q _ => ∃ (p c : Addr) (n : Int), vs = [.ref p, .int n] ∧ Src H p c ∧ 1 ≤ n ∧ n < 1000000 ∧
  ∀ r H', 0 ≤ r → r < n → Src H' p c → But [p, c] H H' → Q (.int r) H'
/-- a list of such data, away from S (it may be any list) -/
def lq (K : PySem.W.Frag) (w : World) (S : List Addr) (ds : List PyData) : Pr := fun v H => ∃ a xs, v = .ref a ∧ SqL K (hide S H) a xs ∧ DrAll K w (hide S H) xs ds
theorem lq.but {K : PySem.W.Frag} {w : World} {S : List Addr} {ds : List PyData} {v : V} {H H' : Hp} (e : But S H H') (h : lq K w S ds v H) : lq K w S ds v H' := by
  obtain ⟨a, xs, rfl, h1, h2⟩ := h
  exact ⟨a, xs, rfl, Evl.ex_l e h1, DrAll.mono e _ _ h2⟩
theorem lq.of {K : PySem.W.Frag} {w : World} {S : List Addr} {ds : List PyData} {v : V} {H : Hp} (h : dq K w S (.list ds) v H) : lq K w S ds v H := by
  obtain ⟨a, xs, e, h1, h2⟩ := sub_lst h
  exact ⟨a, xs, e, h1, h2⟩
/-- one of a list -/
def spOf (K : PySem.W.Frag) : Sp := fun vs H Q _ => ∃ (p c a : Addr) (xs : List V), vs = [.ref p, .ref a] ∧ Src H p c ∧ SqL K (hide [p, c] H) a xs ∧ 1 ≤ xs.length ∧ xs.length ≤ 1000 ∧
  ∀ (j : Nat) v H', xs[j]? = some v → Src H' p c → But [p, c] H H' → Q v H'
theorem depth_ints : ∀ ns : List Int, PyData.depthAll (ns.map .int) = 0
  | [] => by simp [PyData.depthAll]
  | n :: r => by simp [PyData.depthAll, PyData.depth, depth_ints r]
theorem shaped_ints (ns : List Int) : SeqAt.shaped (.list (ns.map .int)) = true := by
  unfold SeqAt.shaped
  rw [Bool.and_eq_true]
  refine ⟨by simp only [PyData.canLay0, canLayAll_ints], ?_⟩
  simp [PyData.depth, depth_ints]
theorem dp_ints {K : PySem.W.Frag} {H : Hp} : ∀ ns : List Int, DpAll K H (ns.map V.int) (ns.map PyData.int)
  | [] => .nil
  | n :: r => .cons (.int n) (dp_ints r)
/-- a tuple away from S stands while a list is another -/
theorem sqt_off {K : PySem.W.Frag} {S : List Addr} {H : Hp} {r a : Addr} {ys zs xs : List V} (hr : H r = some (.lst ys)) (h : SqT K (hide S H) a xs) : SqT K (hide S (upd H r (.lst zs))) a xs := by
  have go : ∀ o, (∀ ws, o ≠ HO.lst ws) → hide S H a = some o → hide S (upd H r (.lst zs)) a = some o := fun o no ha => by
    by_cases z : a ∈ S
    · rw [hide, if_pos z] at ha
      cases ha
    · rw [hide, if_neg z] at ha ⊢
      rw [upd_ne (fun e => no ys (by rw [e, hr] at ha; exact (Option.some.inj ha).symm))]
      exact ha
  rcases h with (h | ⟨o, h⟩) | h
  · exact .inl (.inl (go _ (fun ws q => by cases q) h))
  · exact .inl (.inr ⟨o, go _ (fun ws q => by cases q) h⟩)
  · exact .inr h
theorem sqt_new {K : PySem.W.Frag} {S : List Addr} {H : Hp} {a : Addr} {xs : List V} (k : Kn S H) (n : H a = none) : SqT K (hide S (upd H a (.tup xs))) a xs := SqT.of (hide_new k n)
theorem cut_from {xs : List V} {j : Nat} (h : j ≤ xs.length) : cutV xs (some (j : Int)) none = xs.drop j := by
  unfold cutV
  rw [HT.sIx_nat, HT.sIx_none, Nat.min_eq_left h, List.take_of_length_le (by rw [List.length_drop]; omega)]
theorem cut_to {xs : List V} {j : Nat} (h : j ≤ xs.length) : cutV xs none (some (j : Int)) = xs.take j := by
  unfold cutV
  rw [HT.sIx_nat, HT.sIx_none, Nat.min_eq_left h, List.drop_zero, Nat.sub_zero]
theorem units65 {k : Nat} {A : Around} (r : Room k A) : A.units + 65 < cLine := by have := r.un; omega
theorem op_in_seqK {X : Cx} {K : PySem.W.Frag} (hK : X.K = K := by rfl) : OpR X (compareOp .In) (rIn K false) := by
  subst hK
  exact op_in_seq
theorem sl_listK {X : Cx} {K : PySem.W.Frag} (hK : X.K = K := by rfl) : SlR X (rSlL K) := by
  subst hK
  exact sl_list
theorem op_inDK {X : Cx} {K : PySem.W.Frag} (hu : X.A.units + 65 < cLine) (hK : X.K = K := by rfl) : OpR X (compareOp .In) (rInD K) := by
  subst hK
  exact op_inD hu
theorem op_notInDK {X : Cx} {K : PySem.W.Frag} (hu : X.A.units + 65 < cLine) (hK : X.K = K := by rfl) : OpR X (compareOp .NotIn) (rNotInD K) := by
  subst hK
  exact op_notInD hu
end L2.Vf
/-! Keys as data. -/
namespace L2.Vf
open PySem PySem.Spec PyProof.Rows
open Evl (Ex Ev EvT EvL EvA)
mutual
theorem KeyV.dp {K : PySem.W.Frag} {H : Hp} : ∀ (k : NestedKey) (v : V), KeyV K H k v → Dp K H v k.data
  | .none, _, h => by cases h
  | .num i, _, h => by cases h; exact .int i
  | .text x, _, h => by cases h; exact .str x
  | .tup ks, _, h => by
    cases h with
    | tup h1 h2 => exact .tup h1 (KeyVs.dp ks _ h2)
theorem KeyVs.dp {K : PySem.W.Frag} {H : Hp} : ∀ (ks : List NestedKey) (vs : List V), KeyVs K H ks vs → DpAll K H vs (NestedKey.datas ks)
  | [], _, h => by cases h; exact .nil
  | k :: ks, _, h => by
    cases h with
    | cons h1 h2 => exact .cons (KeyV.dp k _ h1) (KeyVs.dp ks _ h2)
end
mutual
theorem KeyV.dr {K : PySem.W.Frag} {w : World} {H : Hp} : ∀ (k : NestedKey) (v : V), KeyV K H k v → Dr K w H v k.data
  | .none, _, h => by cases h
  | .num i, _, h => by cases h; exact .int i
  | .text x, _, h => by cases h; exact .str x
  | .tup ks, _, h => by
    cases h with
    | tup h1 h2 => exact .tup h1 (KeyVs.dr ks _ h2)
theorem KeyVs.dr {K : PySem.W.Frag} {w : World} {H : Hp} : ∀ (ks : List NestedKey) (vs : List V), KeyVs K H ks vs → DrAll K w H vs (NestedKey.datas ks)
  | [], _, h => by cases h; exact .nil
  | k :: ks, _, h => by
    cases h with
    | cons h1 h2 => exact .cons (KeyV.dr k _ h1) (KeyVs.dr ks _ h2)
end
mutual
theorem eqv_key : ∀ k : NestedKey, PyData.eqv k.data k.data = true
  | .none => by simp [NestedKey.data, PyData.eqv]
  | .num i => by simp [NestedKey.data, PyData.eqv]
  | .text x => by simp [NestedKey.data, PyData.eqv]
  | .tup ks => by
    simp only [NestedKey.data, PyData.eqv]
    exact eqv_keys ks
theorem eqv_keys : ∀ ks : List NestedKey, PyData.eqvAll (NestedKey.datas ks) (NestedKey.datas ks) = true
  | [] => by simp [NestedKey.datas, PyData.eqvAll]
  | k :: ks => by
    simp only [NestedKey.datas, PyData.eqvAll, eqv_key k, eqv_keys ks, Bool.and_self]
end
theorem datas_map : ∀ ks : List NestedKey, NestedKey.datas ks = ks.map NestedKey.data
  | [] => rfl
  | k :: ks => by rw [NestedKey.datas, List.map_cons, datas_map ks]
section
variable {K : PySem.W.Frag} {σ : St} {H H' : Hp} {S : List Addr} {ta : TA} {te : TE} {ks : List NestedKey} {k : NestedKey} {v : V} {vs : List V}
theorem KeyV.but (e : But S H H') (h : KeyV K (hide S H) k v) : KeyV K (hide S H') k v := KeyV.mono e k v h
theorem KeyVs.but (e : But S H H') (h : KeyVs K (hide S H) ks vs) : KeyVs K (hide S H') ks vs := KeyVs.to (Evl.ex_t e) ks vs h
theorem keyVs_len : ∀ {ks : List NestedKey} {vs : List V}, KeyVs K H ks vs → vs.length = ks.length
  | [], _, h => by cases h; rfl
  | k :: ks, _, h => by
    cases h with
    | cons _ h2 => rw [List.length_cons, List.length_cons, keyVs_len h2]
theorem keyVs_get : ∀ {ks : List NestedKey} {vs : List V} {j : Nat} {k : NestedKey}, KeyVs K H ks vs → ks[j]? = some k → ∃ v, vs[j]? = some v ∧ KeyV K H k v
  | k :: ks, _, 0, _, h, e => by
    cases h with
    | cons h1 _ =>
      obtain rfl := Option.some.inj e
      exact ⟨_, rfl, h1⟩
  | k :: ks, _, j + 1, _, h, e => by
    cases h with
    | cons _ h2 =>
      obtain ⟨v, h3, h4⟩ := keyVs_get (j := j) h2 (by simpa using e)
      exact ⟨v, by simpa using h3, h4⟩
  | [], _, _, _, _, e => by simp at e
theorem keyVs_snoc : ∀ {ks : List NestedKey} {vs : List V}, KeyVs K H ks vs → KeyV K H k v → KeyVs K H (ks ++ [k]) (vs ++ [v])
  | [], _, h, g => by cases h; exact .cons g .nil
  | k :: ks, _, h, g => by
    cases h with
    | cons h1 h2 => exact .cons h1 (keyVs_snoc h2 g)
/-- this key, away from S -/
def kq (K : PySem.W.Frag) (S : List Addr) (k : NestedKey) : Pr := fun v H => KeyV K (hide S H) k v
theorem mono_kq : Mono (kq K S k) := fun v H H' e h => KeyV.but (But.of e) h
theorem keyVs_of : ∀ {ks : List NestedKey} {vs : List V}, AllP (ks.map (kq K S)) vs H → KeyVs K (hide S H) ks vs
  | [], [], _ => .nil
  | _ :: _, _ :: _, h => .cons h.1 (keyVs_of h.2)
  | [], _ :: _, h => h.elim
  | _ :: _, [], h => h.elim
theorem evp_kC {x : V} (h : EvP te σ H (is x)) (hd : ∀ H', KeyV K H' k x) : EvP te σ H (kq K S k) := h.to fun v H' _ hv => by
  obtain rfl : v = x := hv
  exact hd _
theorem evs_kq (h : EvP te σ H (kq K S k)) (hr : EvPs ta σ H (ks.map (kq K S))) : EvPs (tCons te ta) σ H ((k :: ks).map (kq K S)) := evs_cons h mono_kq hr
theorem evp_kT (n : Kn S H) (h : EvPs ta σ H (ks.map (kq K S))) (hl : ks.length ≤ 1000) : EvP (tTup ta) σ H (kq K S (.tup ks)) := fun H1 e Q q0 =>
  h H1 e _ fun vs H2 e2 a => ⟨Nat.le_of_lt (small1000 (by rw [a.len, List.length_map]; exact hl)), fun r hr =>
    q0 (.ref r) _ (e2.trans (Ex.new hr)) (.tup (SqT.of (hide_new (n.ex (e.trans e2)) hr)) (KeyVs.but (But.of (Ex.new hr)) (keyVs_of a)))⟩
/-- a new list of keys -/
def klF (K : PySem.W.Frag) (S : List Addr) (H0 : Hp) (ks : List NestedKey) : Pr := fun v H => ∃ a vs, v = .ref a ∧ H0 a = none ∧ H a = some (.lst vs) ∧ KeyVs K (hide S H) ks vs
theorem evp_kL (h : EvPs ta σ H (ks.map (kq K S))) (hl : ks.length ≤ 1000) : EvP (tLst ta) σ H (klF K S H ks) := fun H1 e Q q0 =>
  h H1 e _ fun vs H2 e2 a => ⟨Nat.le_of_lt (small1000 (by rw [a.len, List.length_map]; exact hl)), fun r hr =>
    q0 (.ref r) _ (e2.trans (Ex.new hr)) ⟨r, vs, rfl, Evl.fresh_back (e.trans e2) hr, upd_same, KeyVs.but (But.of (Ex.new hr)) (keyVs_of a)⟩⟩
/-- a list of these keys -/
def kl (K : PySem.W.Frag) (S : List Addr) (ks : List NestedKey) : Pr := fun v H => ∃ a vs, v = .ref a ∧ SqL K (hide S H) a vs ∧ KeyVs K (hide S H) ks vs
theorem kl.but (e : But S H H') (h : kl K S ks v H) : kl K S ks v H' := by
  obtain ⟨a, vs, rfl, h1, h2⟩ := h
  exact ⟨a, vs, rfl, Evl.ex_l e h1, h2.but e⟩
/-- keys stand while a list is another -/
theorem KeyV.offL {r : Addr} {ys zs : List V} (hr : H r = some (.lst ys)) (h : KeyV K (hide S H) k v) : KeyV K (hide S (upd H r (.lst zs))) k v := KeyV.to (fun g => sqt_off hr g) k v h
theorem KeyVs.offL {r : Addr} {ys zs : List V} (hr : H r = some (.lst ys)) (h : KeyVs K (hide S H) ks vs) : KeyVs K (hide S (upd H r (.lst zs))) ks vs := KeyVs.to (fun g => sqt_off hr g) ks vs h
end
end L2.Vf
/-! Terms, as they stand in the heap: variables and made terms, tuples all the way down. -/
namespace L2.Vf
open PySem PySem.Spec PyProof.Rows
open Evl (Ex Ev EvT EvL EvA)
inductive Tm where
  | var (k : NestedKey)
  | of (x : Str) (ts : List Tm)
mutual
def Tm.data : Tm → PyData
  | .var k => .tuple [.str "var", k.data]
  | .of x ts => .tuple [.str "of", .str x, .tuple (Tm.datas ts)]
def Tm.datas : List Tm → List PyData
  | [] => []
  | t :: ts => t.data :: Tm.datas ts
end
mutual
inductive TmV (K : PySem.W.Frag) (H : Hp) : Tm → V → Prop
  | var {a : Addr} {k : NestedKey} {v : V} : SqT K H a [.str "var", v] → KeyV K H k v → k.depth ≤ 8 → TmV K H (.var k) (.ref a)
  | of {a b : Addr} {x : Str} {ts : List Tm} {vs : List V} : SqT K H a [.str "of", .str x, .ref b] → SqT K H b vs → TmVs K H ts vs → ts.length ≤ 10 → TmV K H (.of x ts) (.ref a)
inductive TmVs (K : PySem.W.Frag) (H : Hp) : List Tm → List V → Prop
  | nil : TmVs K H [] []
  | cons {t : Tm} {v : V} {ts : List Tm} {vs : List V} : TmV K H t v → TmVs K H ts vs → TmVs K H (t :: ts) (v :: vs)
end
mutual
theorem TmV.to {K : PySem.W.Frag} {H H' : Hp} (e : ∀ {a : Addr} {xs : List V}, SqT K H a xs → SqT K H' a xs) : ∀ (t : Tm) (v : V), TmV K H t v → TmV K H' t v
  | .var k, _, h => by
    cases h with
    | var h1 h2 h3 => exact .var (e h1) (KeyV.to e _ _ h2) h3
  | .of x ts, _, h => by
    cases h with
    | of h1 h2 h3 h4 => exact .of (e h1) (e h2) (TmVs.to e ts _ h3) h4
theorem TmVs.to {K : PySem.W.Frag} {H H' : Hp} (e : ∀ {a : Addr} {xs : List V}, SqT K H a xs → SqT K H' a xs) : ∀ (ts : List Tm) (vs : List V), TmVs K H ts vs → TmVs K H' ts vs
  | [], _, h => by cases h; exact .nil
  | t :: ts, _, h => by
    cases h with
    | cons h1 h2 => exact .cons (TmV.to e t _ h1) (TmVs.to e ts _ h2)
end
mutual
theorem TmV.dr {K : PySem.W.Frag} {w : World} {H : Hp} : ∀ (t : Tm) (v : V), TmV K H t v → Dr K w H v t.data
  | .var k, _, h => by
    cases h with
    | var h1 h2 _ => exact .tup h1 (.cons (.str _) (.cons (KeyV.dr _ _ h2) .nil))
  | .of x ts, _, h => by
    cases h with
    | of h1 h2 h3 _ => exact .tup h1 (.cons (.str _) (.cons (.str _) (.cons (.tup h2 (TmVs.dr ts _ h3)) .nil)))
theorem TmVs.dr {K : PySem.W.Frag} {w : World} {H : Hp} : ∀ (ts : List Tm) (vs : List V), TmVs K H ts vs → DrAll K w H vs (Tm.datas ts)
  | [], _, h => by cases h; exact .nil
  | t :: ts, _, h => by
    cases h with
    | cons h1 h2 => exact .cons (TmV.dr t _ h1) (TmVs.dr ts _ h2)
end
mutual
theorem TmV.dp {K : PySem.W.Frag} {H : Hp} : ∀ (t : Tm) (v : V), TmV K H t v → Dp K H v t.data
  | .var k, _, h => by
    cases h with
    | var h1 h2 _ => exact .tup h1 (.cons (.str _) (.cons (KeyV.dp _ _ h2) .nil))
  | .of x ts, _, h => by
    cases h with
    | of h1 h2 h3 _ => exact .tup h1 (.cons (.str _) (.cons (.str _) (.cons (.tup h2 (TmVs.dp ts _ h3)) .nil)))
theorem TmVs.dp {K : PySem.W.Frag} {H : Hp} : ∀ (ts : List Tm) (vs : List V), TmVs K H ts vs → DpAll K H vs (Tm.datas ts)
  | [], _, h => by cases h; exact .nil
  | t :: ts, _, h => by
    cases h with
    | cons h1 h2 => exact .cons (TmV.dp t _ h1) (TmVs.dp ts _ h2)
end
section
variable {K : PySem.W.Frag} {H H' : Hp} {S : List Addr} {t : Tm} {ts : List Tm} {v : V} {vs : List V}
theorem TmV.but (e : But S H H') (h : TmV K (hide S H) t v) : TmV K (hide S H') t v := TmV.to (Evl.ex_t e) t v h
theorem TmVs.but (e : But S H H') (h : TmVs K (hide S H) ts vs) : TmVs K (hide S H') ts vs := TmVs.to (Evl.ex_t e) ts vs h
theorem TmV.offL {r : Addr} {ys zs : List V} (hr : H r = some (.lst ys)) (h : TmV K (hide S H) t v) : TmV K (hide S (upd H r (.lst zs))) t v := TmV.to (fun g => sqt_off hr g) t v h
theorem TmVs.offL {r : Addr} {ys zs : List V} (hr : H r = some (.lst ys)) (h : TmVs K (hide S H) ts vs) : TmVs K (hide S (upd H r (.lst zs))) ts vs := TmVs.to (fun g => sqt_off hr g) ts vs h
theorem tmVs_len : ∀ {ts : List Tm} {vs : List V}, TmVs K H ts vs → vs.length = ts.length
  | [], _, h => by cases h; rfl
  | t :: ts, _, h => by
    cases h with
    | cons _ h2 => rw [List.length_cons, List.length_cons, tmVs_len h2]
theorem tmVs_snoc : ∀ {ts : List Tm} {vs : List V}, TmVs K H ts vs → TmV K H t v → TmVs K H (ts ++ [t]) (vs ++ [v])
  | [], _, h, g => by cases h; exact .cons g .nil
  | t :: ts, _, h, g => by
    cases h with
    | cons h1 h2 => exact .cons h1 (tmVs_snoc h2 g)
/-- this term, away from S -/
def tq (K : PySem.W.Frag) (S : List Addr) (t : Tm) : Pr := fun v H => TmV K (hide S H) t v
end
mutual
/-- a term over these primitives and variables, at most so deep -/
def TmIn (qs : List (Str × Nat)) (ks : List NestedKey) : Nat → Tm → Prop
  | _, .var k => k ∈ ks
  | 0, .of _ _ => False
  | d + 1, .of x ts => (x, ts.length) ∈ qs ∧ TmsIn qs ks d ts
def TmsIn (qs : List (Str × Nat)) (ks : List NestedKey) : Nat → List Tm → Prop
  | _, [] => True
  | d, t :: ts => TmIn qs ks d t ∧ TmsIn qs ks d ts
end
theorem tmsIn_snoc {qs : List (Str × Nat)} {ks : List NestedKey} {d : Nat} {t : Tm} : ∀ {ts : List Tm}, TmsIn qs ks d ts → TmIn qs ks d t → TmsIn qs ks d (ts ++ [t])
  | [], _, g => by
    unfold TmsIn
    exact ⟨g, by unfold TmsIn; trivial⟩
  | u :: ts, h, g => by
    unfold TmsIn at h
    show TmsIn qs ks d (u :: (ts ++ [t]))
    unfold TmsIn
    exact ⟨h.1, tmsIn_snoc h.2 g⟩
theorem units40 {k : Nat} {A : Around} (r : Room k A) : A.units + 40 < cLine := by have := r.un; omega
/-! ### tables of terms -/
abbrev Tb := List (NestedKey × Tm)
def tLook (tb : Tb) (k : NestedKey) : Option Tm := (tb.find? fun p => decide (p.1 = k)).map (·.2)
mutual
def Tm.put (tb : Tb) : Tm → Tm
  | .var k => (tLook tb k).getD (.var k)
  | .of x ts => .of x (Tm.puts tb ts)
def Tm.puts (tb : Tb) : List Tm → List Tm
  | [] => []
  | t :: ts => t.put tb :: Tm.puts tb ts
end
mutual
def Tm.deep : Tm → Nat
  | .var _ => 0
  | .of _ ts => Tm.deeps ts + 1
def Tm.deeps : List Tm → Nat
  | [] => 0
  | t :: ts => max t.deep (Tm.deeps ts)
end
/-- the rows of a table -/
abbrev TbR (K : PySem.W.Frag) (H : Hp) : List Mv → Tb → Prop := Paired fun (r : Mv) q => r.1 = q.1 ∧ TmV K H q.2 r.2.2
/-- this table, away from S -/
def bq (K : PySem.W.Frag) (w : World) (S : List Addr) (tb : Tb) : Pr := fun v H => ∃ d ks, v = .ref d ∧ Mx K (hide S H) w d ks ∧ TbR K (hide S H) ks tb
theorem tbR_look {K : PySem.W.Frag} {H : Hp} {ks : List Mv} {tb : Tb} (h : TbR K H ks tb) (k : NestedKey) : (vM ks k = none ∧ tLook tb k = none) ∨ ∃ v t, vM ks k = some v ∧ tLook tb k = some t ∧ TmV K H t v := by
  induction h with
  | nil => exact .inl ⟨rfl, rfl⟩
  | @cons r q rs qs hr _ ih =>
    obtain ⟨e, ht⟩ := hr
    unfold vM tLook
    rw [List.find?_cons, List.find?_cons]
    by_cases z : r.1 = k
    · rw [decide_eq_true z, decide_eq_true (e ▸ z)]
      exact .inr ⟨_, _, rfl, rfl, ht⟩
    · rw [decide_eq_false z, decide_eq_false (e ▸ z)]
      exact ih
theorem tbR_mono {K : PySem.W.Frag} {H H' : Hp} {ks : List Mv} {tb : Tb} (e : ∀ {a : Addr} {xs : List V}, SqT K H a xs → SqT K H' a xs) (h : TbR K H ks tb) : TbR K H' ks tb := by
  induction h with
  | nil => exact .nil
  | cons hr _ ih => exact .cons ⟨hr.1, TmV.to e _ _ hr.2⟩ ih
theorem bq.but {K : PySem.W.Frag} {w : World} {S : List Addr} {tb : Tb} {v : V} {H H' : Hp} (e : But S H H') (h : bq K w S tb v H) : bq K w S tb v H' := by
  obtain ⟨d, ks, rfl, h1, h2⟩ := h
  exact ⟨d, ks, rfl, h1.mono e, tbR_mono (Evl.ex_t e) h2⟩
theorem tmVs_take : ∀ {K : PySem.W.Frag} {H : Hp} {ts : List Tm} {vs : List V} {i : Nat} {v : V}, TmVs K H ts vs → vs[i]? = some v → ∃ t, ts[i]? = some t ∧ TmV K H t v
  | K, H, t :: ts, _, 0, v, h, e => by
    cases h with
    | cons h1 _ =>
      obtain rfl := Option.some.inj e
      exact ⟨t, rfl, h1⟩
  | K, H, t :: ts, _, i + 1, v, h, e => by
    cases h with
    | cons _ h2 =>
      obtain ⟨u, h3, h4⟩ := tmVs_take (i := i) h2 (by simpa using e)
      exact ⟨u, by simpa using h3, h4⟩
  | K, H, [], _, _, _, h, e => by
    cases h
    simp at e
theorem deep_le : ∀ {ts : List Tm} {i : Nat} {t : Tm}, ts[i]? = some t → t.deep ≤ Tm.deeps ts
  | t :: ts, 0, u, e => by
    obtain rfl := Option.some.inj e
    unfold Tm.deeps
    omega
  | t :: ts, i + 1, u, e => by
    have := deep_le (ts := ts) (i := i) (by simpa using e)
    unfold Tm.deeps
    omega
  | [], _, _, e => by simp at e
theorem puts_map (tb : Tb) : ∀ ts : List Tm, Tm.puts tb ts = ts.map (Tm.put tb)
  | [] => rfl
  | t :: ts => by rw [Tm.puts, List.map_cons, puts_map tb ts]
/-- a dict that is written elsewhere may be read here -/
theorem Mx.shown {K : PySem.W.Frag} {w : World} {S : List Addr} {d : Addr} {ks : List Mv} {H : Hp} (h : Mx K (hide S H) w d ks) : Mx K H w d ks := h.mono hide_ex
theorem hide_upd {S : List Addr} {H : Hp} {d : Addr} {o : HO} (n : d ∉ S) : hide S (upd H d o) = upd (hide S H) d o := by
  funext b
  by_cases hb : b = d
  · rw [hb, upd_same, hide_off n, upd_same]
  · rw [upd_ne hb]
    by_cases z : b ∈ S
    · rw [hide, if_pos z, hide, if_pos z]
    · rw [hide, if_neg z, hide, if_neg z, upd_ne hb]
def tPut (tb : Tb) (k : NestedKey) (t : Tm) : Tb := if (tLook tb k).isSome = true then tb.map (fun p => if p.1 = k then (p.1, t) else p) else tb ++ [(k, t)]
theorem tbR_put {K : PySem.W.Frag} {H : Hp} {ks : List Mv} {tb : Tb} (h : TbR K H ks tb) (k : NestedKey) {y v : V} {t : Tm} (ht : TmV K H t v) : TbR K H (pM ks k y v) (tPut tb k t) := by
  have same : (vM ks k).isSome = (tLook tb k).isSome := by
    rcases tbR_look h k with ⟨e1, e2⟩ | ⟨_, _, e1, e2, _⟩
    · rw [e1, e2]; rfl
    · rw [e1, e2]; rfl
  unfold pM tPut
  rw [← same]
  split
  · rename_i g
    clear g same
    induction h with
    | nil => exact .nil
    | @cons r q rs qs hr _ ih =>
      refine .cons ?_ ih
      obtain ⟨e, h2⟩ := hr
      dsimp only
      by_cases z : r.1 = k
      · rw [if_pos z, if_pos (e ▸ z)]
        exact ⟨e, ht⟩
      · rw [if_neg z, if_neg (e ▸ z)]
        exact ⟨e, h2⟩
  · exact Paired.snoc h ⟨rfl, ht⟩
/-- a table that may be written stands at d, away from S -/
def TabAt (K : PySem.W.Frag) (w : World) (S : List Addr) (H : Hp) (d : Addr) (tb : Tb) : Prop := ∃ mv : List Mv, H d = some (mxo d w mv) ∧ d ∉ S ∧ Mx K (hide S H) w d mv ∧ TbR K (hide S H) mv tb
section
variable {K : PySem.W.Frag} {w : World} {S : List Addr} {H H' : Hp} {d : Addr} {tb : Tb} {k : NestedKey} {t : Tm} {y v : V}
theorem TabAt.but (e : But S H H') (h : TabAt K w S H d tb) : TabAt K w S H' d tb := by
  obtain ⟨mv, h1, h2, h3, h4⟩ := h
  exact ⟨mv, e.get h2 h1, h2, h3.mono e, tbR_mono (Evl.ex_t e) h4⟩
theorem TabAt.bq (h : TabAt K w S H d tb) : bq K w S tb (.ref d) H := by
  obtain ⟨mv, _, _, h3, h4⟩ := h
  exact ⟨d, mv, rfl, h3, h4⟩
theorem TabAt.new (kn : Kn S H) (n : H d = none) (hs : (d == sysModules) = false) : TabAt K w S (upd H d (mxo d w [])) d [] :=
  ⟨[], upd_same, kn.off n, by rw [hide_upd (kn.off n)]; exact Mx.new hs, .nil⟩
theorem tPut_len (tb : Tb) (k : NestedKey) (t : Tm) : (tPut tb k t).length ≤ tb.length + 1 := by
  unfold tPut
  split
  · rw [List.length_map]
    omega
  · simp
theorem TabAt.len (h : TabAt K w S H d tb) : ∃ mv : List Mv, H d = some (mxo d w mv) ∧ mv.length = tb.length := by
  obtain ⟨mv, h1, _, _, h4⟩ := h
  exact ⟨mv, h1, Paired.length h4⟩
theorem TabAt.put (h : TabAt K w S H d tb) (hk : KeyV K (hide S H) k y) (dk : k.depth ≤ 8) (ht : TmV K (hide S H) t v) (l : tb.length < 1000) :
    ∃ mv : List Mv, Mx K H w d mv ∧ H d = some (mxo d w mv) ∧ mv.length < 1000 ∧ TabAt K w S (upd H d (mxo d w (pM mv k y v))) d (tPut tb k t) := by
  obtain ⟨mv, h1, h2, h3, h4⟩ := h
  have lm : mv.length = tb.length := Paired.length h4
  have ow : hide S H d = some (mxo d w mv) := by rw [hide_off h2]; exact h1
  refine ⟨mv, h3.shown, h1, by omega, pM mv k y v, upd_same, h2, ?_, ?_⟩
  · rw [hide_upd h2]
    exact h3.put ow hk dk (by omega)
  · rw [hide_upd h2]
    exact tbR_mono (fun g => off_ext ow g) (tbR_put h4 k ht)
end
mutual
theorem tmIn_mono {qs : List (Str × Nat)} {ks : List NestedKey} : ∀ (t : Tm) {d e : Nat}, d ≤ e → TmIn qs ks d t → TmIn qs ks e t
  | .var k, d, e, _, h => by
    unfold TmIn at h ⊢
    exact h
  | .of x ts, d, e, l, h => by
    cases d with
    | zero =>
      unfold TmIn at h
      exact h.elim
    | succ d =>
      cases e with
      | zero => omega
      | succ e =>
        unfold TmIn at h ⊢
        exact ⟨h.1, tmsIn_mono ts (by omega) h.2⟩
theorem tmsIn_mono {qs : List (Str × Nat)} {ks : List NestedKey} : ∀ (ts : List Tm) {d e : Nat}, d ≤ e → TmsIn qs ks d ts → TmsIn qs ks e ts
  | [], d, e, _, _ => by unfold TmsIn; trivial
  | t :: ts, d, e, l, h => by
    unfold TmsIn at h ⊢
    exact ⟨tmIn_mono t l h.1, tmsIn_mono ts l h.2⟩
end
mutual
theorem tmIn_deep {qs : List (Str × Nat)} {ks : List NestedKey} : ∀ (t : Tm) {d : Nat}, TmIn qs ks d t → t.deep ≤ d
  | .var k, d, _ => by
    unfold Tm.deep
    omega
  | .of x ts, d, h => by
    cases d with
    | zero =>
      unfold TmIn at h
      exact h.elim
    | succ d =>
      unfold TmIn at h
      have := tmsIn_deep ts h.2
      unfold Tm.deep
      omega
theorem tmsIn_deep {qs : List (Str × Nat)} {ks : List NestedKey} : ∀ (ts : List Tm) {d : Nat}, TmsIn qs ks d ts → Tm.deeps ts ≤ d
  | [], d, _ => by
    unfold Tm.deeps
    omega
  | t :: ts, d, h => by
    unfold TmsIn at h
    have h1 := tmIn_deep t h.1
    have h2 := tmsIn_deep ts h.2
    unfold Tm.deeps
    omega
end
theorem tPut_mem {tb : Tb} {k : NestedKey} {t : Tm} {r : NestedKey × Tm} (h : r ∈ tPut tb k t) : (∃ q ∈ tb, q.1 = r.1 ∧ (r.2 = q.2 ∨ r.2 = t)) ∨ (r.1 = k ∧ r.2 = t) := by
  unfold tPut at h
  split at h
  · obtain ⟨q, hq, rfl⟩ := List.mem_map.mp h
    refine .inl ⟨q, hq, ?_⟩
    split
    · exact ⟨rfl, .inr rfl⟩
    · exact ⟨rfl, .inl rfl⟩
  · rcases List.mem_append.mp h with z | z
    · exact .inl ⟨r, z, rfl, .inl rfl⟩
    · rw [List.mem_singleton.mp z]
      exact .inr ⟨rfl, rfl⟩
end L2.Vf
/-! How long a repr can be. -/
namespace L2.Vf
open PySem
/-- plain signs alone -/
def asc (x : Str) : Bool := x.cps.toList.all fun c => decide (c < 128)
/-- a word of plain signs, not too long -/
def strSm (x : Str) : Bool := decide (x.length ≤ 14) && asc x
mutual
/-- all leaves are small -/
def smD : PyData → Bool
  | .none | .bool _ => true
  | .int i => decide ((toString i : Str).length ≤ 150) && decide (i.natAbs.log2 < 1920) && asc (toString i : Str)
  | .str x => strSm x
  | .list xs | .tuple xs => smAll xs
  | .dict kvs => smKv kvs
def smAll : List PyData → Bool
  | [] => true
  | x :: xs => smD x && smAll xs
def smKv : List (PyData × PyData) → Bool
  | [] => true
  | (k, v) :: r => smD k && smD v && smKv r
end
mutual
/-- how many parts data has -/
def cnt : PyData → Nat
  | .none | .bool _ | .int _ | .str _ => 1
  | .list xs | .tuple xs => cntAll xs + 1
  | .dict kvs => cntKv kvs + 1
def cntAll : List PyData → Nat
  | [] => 0
  | x :: xs => cnt x + cntAll xs
def cntKv : List (PyData × PyData) → Nat
  | [] => 0
  | (k, v) :: r => cnt k + cnt v + cntKv r
end
theorem piled_text : ∀ (ts : List Str) (k : Nat) (acc : Str), (textFrom k acc ts).length ≤ acc.length + piled ts
  | [], k, acc => by
    show acc.length ≤ _
    omega
  | t :: r, k, acc => by
    have h := piled_text r (k + 1) (acc ++ (if k > 0 then ", " else "" : String) ++ t)
    have e : (acc ++ (if k > 0 then ", " else "" : String) ++ t).length = acc.length + (if k > 0 then 2 else 0) + t.length := by
      rw [strLen_append, strLen_append]
      split <;> rfl
    rw [e] at h
    rw [piled_cons]
    show (textFrom (k + 1) (acc ++ (if k > 0 then ", " else "" : String) ++ t) r).length ≤ _
    refine Nat.le_trans h ?_
    split <;> omega
theorem listText_le (ts : List Str) : (listText ts).length ≤ piled ts + 2 := by
  unfold listText
  rw [strLen_append]
  have h := piled_text ts 0 "["
  have e1 : ((("[" : String) : Str)).length = 1 := rfl
  have e2 : ((("]" : String) : Str)).length = 1 := rfl
  omega
theorem tupleText_le (ts : List Str) : (tupleText ts).length ≤ piled ts + 3 := by
  unfold tupleText
  rw [strLen_append, strLen_append]
  have e1 : ((("(" : String) : Str)).length = 1 := rfl
  have e3 : (((if ts.length == 1 then ",)" else ")" : String) : Str)).length ≤ 2 := by split <;> decide
  rw [e1]
  by_cases h : ts = []
  · subst h
    have : (Str.join ", " []).length = 0 := rfl
    omega
  · have := join_length_add ts h
    omega
theorem dictText_le (ts : List Str) : (dictText ts).length ≤ piled ts + 2 := by
  have e : (dictText ts).length = 1 + (Str.join ", " ts).length + 1 := by
    unfold dictText
    rw [strLen_append, strLen_append]; rfl
  by_cases h : ts = []
  · subst h
    have : (Str.join ", " []).length = 0 := rfl
    omega
  · have := join_length_add ts h
    omega
theorem strSm_len {x : Str} (h : strSm x = true) : (reprText x).length ≤ 150 := by
  unfold strSm at h
  unfold asc at h
  rw [Bool.and_eq_true, decide_eq_true_eq, List.all_eq_true] at h
  have z := StrLaws.reprText_len x fun c hc => Nat.lt_of_lt_of_le (of_decide_eq_true (h.2 c hc)) (by decide)
  omega
mutual
theorem shown_le : ∀ d : PyData, smD d = true → d.shown.length + 5 ≤ 160 * cnt d
  | .none, _ => by simp only [PyData.shown, cnt]; decide
  | .bool b, _ => by cases b <;> simp only [PyData.shown, cnt] <;> decide
  | .int i, h => by
    simp only [smD, Bool.and_eq_true, decide_eq_true_eq] at h
    simp only [PyData.shown, cnt]
    omega
  | .str x, h => by
    simp only [smD] at h
    have := strSm_len h
    simp only [PyData.shown, cnt]
    omega
  | .list xs, h => by
    simp only [smD] at h
    have := shownAll_le xs h
    have := listText_le (PyData.shownAll xs)
    simp only [PyData.shown, cnt]
    omega
  | .tuple xs, h => by
    simp only [smD] at h
    have := shownAll_le xs h
    have := tupleText_le (PyData.shownAll xs)
    simp only [PyData.shown, cnt]
    omega
  | .dict kvs, h => by
    simp only [smD] at h
    have := shownKv_le kvs h
    have := dictText_le (PyData.shownKv kvs)
    simp only [PyData.shown, cnt]
    omega
theorem shownAll_le : ∀ xs : List PyData, smAll xs = true → piled (PyData.shownAll xs) ≤ 160 * cntAll xs
  | [], _ => by simp only [PyData.shownAll, cntAll, piled_nil]; omega
  | x :: xs, h => by
    simp only [smAll, Bool.and_eq_true] at h
    have h1 := shown_le x h.1
    have h2 := shownAll_le xs h.2
    simp only [PyData.shownAll, cntAll, piled_cons]
    omega
theorem shownKv_le : ∀ xs : List (PyData × PyData), smKv xs = true → piled (PyData.shownKv xs) ≤ 160 * cntKv xs
  | [], _ => by simp only [PyData.shownKv, cntKv, piled_nil]; omega
  | (k, v) :: r, h => by
    simp only [smKv, Bool.and_eq_true] at h
    have h1 := shown_le k h.1.1
    have h2 := shown_le v h.1.2
    have h3 := shownKv_le r h.2
    simp only [PyData.shownKv, cntKv, piled_cons]
    rw [strLen_append, strLen_append]
    have e : (((": " : String) : Str)).length = 2 := rfl
    omega
end
mutual
theorem sm_showable : ∀ d : PyData, smD d = true → d.showable = true
  | .none, _ => by simp only [PyData.showable]
  | .bool b, _ => by simp only [PyData.showable]
  | .int i, h => by
    simp only [smD, Bool.and_eq_true, decide_eq_true_eq] at h
    simp only [PyData.showable, decide_eq_true_eq]
    exact h.1.2
  | .str x, h => by simp only [PyData.showable]
  | .list xs, h => by
    simp only [smD] at h
    simp only [PyData.showable]
    exact smAll_showable xs h
  | .tuple xs, h => by
    simp only [smD] at h
    simp only [PyData.showable]
    exact smAll_showable xs h
  | .dict kvs, h => by
    simp only [smD] at h
    simp only [PyData.showable]
    exact smKv_showable kvs h
theorem smAll_showable : ∀ xs : List PyData, smAll xs = true → PyData.showableAll xs = true
  | [], _ => by simp only [PyData.showableAll]
  | x :: xs, h => by
    simp only [smAll, Bool.and_eq_true] at h
    simp only [PyData.showableAll, sm_showable x h.1, smAll_showable xs h.2, Bool.and_self]
theorem smKv_showable : ∀ xs : List (PyData × PyData), smKv xs = true → PyData.showableKv xs = true
  | [], _ => by simp only [PyData.showableKv]
  | (k, v) :: r, h => by
    simp only [smKv, Bool.and_eq_true] at h
    simp only [PyData.showableKv, sm_showable k h.1.1, sm_showable v h.1.2, smKv_showable r h.2, Bool.and_self]
end
/-! ### of plain signs -/
theorem asc_app (x y : Str) : asc (x ++ y) = (asc x && asc y) := by
  show (x.cps ++ y.cps).toList.all _ = _
  rw [Array.toList_append, List.all_append]
  rfl
theorem chars_asc : ∀ c : Nat, c < 128 → ((Builtin.Str.reprChar 39 c).all fun c => decide (c < 128)) = true ∧ ((Builtin.Str.reprChar 34 c).all fun c => decide (c < 128)) = true := by decide +kernel
theorem fold_asc (q : Nat) (hq : q = 34 ∨ q = 39) : ∀ (l : List Nat) (acc : Array Nat), (∀ c ∈ l, c < 128) → (acc.toList.all fun c => decide (c < 128)) = true →
    ((l.foldl (fun out c => out ++ (Builtin.Str.reprChar q c).toArray) acc).toList.all fun c => decide (c < 128)) = true
  | [], acc, _, h => h
  | c :: l, acc, hl, h => by
    rw [List.foldl_cons]
    refine fold_asc q hq l _ (fun d hd => hl d (List.mem_cons_of_mem _ hd)) ?_
    rw [Array.toList_append, List.all_append, h, Bool.true_and]
    obtain ⟨h1, h2⟩ := chars_asc c (hl c List.mem_cons_self)
    rcases hq with rfl | rfl
    · exact h2
    · exact h1
theorem repr_asc {x : Str} (h : asc x = true) : asc (reprText x) = true := by
  have hq : reprQuote x = 34 ∨ reprQuote x = 39 := by
    unfold reprQuote
    split
    · exact .inl rfl
    · exact .inr rfl
  have hx : ∀ c ∈ x.cps.toList, c < 128 := fun c hc => of_decide_eq_true (List.all_eq_true.mp h c hc)
  have z := fold_asc (reprQuote x) hq x.cps.toList #[reprQuote x] hx (by rcases hq with e | e <;> rw [e] <;> rfl)
  show ((x.cps.foldl (fun out c => out ++ (Builtin.Str.reprChar (reprQuote x) c).toArray) #[reprQuote x]).push (reprQuote x)).toList.all _ = true
  rw [Array.toList_push, List.all_append, ← Array.foldl_toList, z]
  rcases hq with e | e <;> rw [e] <;> rfl
theorem text_asc : ∀ (ts : List Str) (k : Nat) (acc : Str), asc acc = true → (∀ t ∈ ts, asc t = true) → asc (textFrom k acc ts) = true
  | [], _, _, h, _ => h
  | t :: r, k, acc, h, ht => by
    show asc (textFrom (k + 1) (acc ++ (if k > 0 then ", " else "" : String) ++ t) r) = true
    refine text_asc r _ _ ?_ fun u hu => ht u (List.mem_cons_of_mem _ hu)
    rw [asc_app, asc_app, h, ht t List.mem_cons_self]
    split <;> rfl
theorem join_asc : ∀ ts : List Str, (∀ t ∈ ts, asc t = true) → asc (Str.join ", " ts) = true
  | [], _ => rfl
  | [x], h => h x List.mem_cons_self
  | x :: y :: r, h => by
    have ih := join_asc (y :: r) fun u hu => h u (List.mem_cons_of_mem _ hu)
    show asc (x ++ ", " ++ Str.join ", " (y :: r)) = true
    rw [asc_app, asc_app, h x List.mem_cons_self, ih]
    rfl
mutual
theorem shown_asc : ∀ d : PyData, smD d = true → asc d.shown = true
  | .none, _ => by simp only [PyData.shown]; decide
  | .bool b, _ => by cases b <;> simp only [PyData.shown] <;> decide
  | .int i, h => by
    simp only [smD, Bool.and_eq_true] at h
    simp only [PyData.shown]
    exact h.2
  | .str x, h => by
    simp only [smD, strSm, Bool.and_eq_true] at h
    simp only [PyData.shown]
    exact repr_asc h.2
  | .list xs, h => by
    simp only [smD] at h
    have := shownAll_asc xs h
    simp only [PyData.shown]
    unfold listText
    rw [asc_app, text_asc _ _ _ rfl this]
    rfl
  | .tuple xs, h => by
    simp only [smD] at h
    have := shownAll_asc xs h
    simp only [PyData.shown]
    unfold tupleText
    rw [asc_app, asc_app, join_asc _ this]
    split <;> rfl
  | .dict kvs, h => by
    simp only [smD] at h
    have := shownKv_asc kvs h
    simp only [PyData.shown]
    unfold dictText
    rw [asc_app, asc_app, join_asc _ this]
    rfl
theorem shownAll_asc : ∀ xs : List PyData, smAll xs = true → ∀ t ∈ PyData.shownAll xs, asc t = true
  | [], _ => by simp only [PyData.shownAll]; intro t ht; cases ht
  | x :: xs, h => by
    simp only [smAll, Bool.and_eq_true] at h
    simp only [PyData.shownAll]
    intro t ht
    rcases List.mem_cons.mp ht with rfl | ht
    · exact shown_asc x h.1
    · exact shownAll_asc xs h.2 t ht
theorem shownKv_asc : ∀ xs : List (PyData × PyData), smKv xs = true → ∀ t ∈ PyData.shownKv xs, asc t = true
  | [], _ => by simp only [PyData.shownKv]; intro t ht; cases ht
  | (k, v) :: r, h => by
    simp only [smKv, Bool.and_eq_true] at h
    simp only [PyData.shownKv]
    intro t ht
    rcases List.mem_cons.mp ht with rfl | ht
    · rw [asc_app, asc_app, shown_asc k h.1.1, shown_asc v h.1.2]
      rfl
    · exact shownKv_asc r h.2 t ht
end
theorem asc_ok {x : Str} (h : asc x = true) : PyData.strOk x = true := by
  unfold PyData.strOk
  rw [← Array.all_toList, List.all_eq_true]
  exact fun c hc => decide_eq_true (Nat.lt_trans (of_decide_eq_true (List.all_eq_true.mp h c hc)) (by decide))
end L2.Vf
/-! Terms: what is put in, as data, how long they are shown. -/
namespace L2.Vf
open PySem PySem.Spec PyProof.Rows
/-! ### what is put in -/
theorem tLook_nil (k : NestedKey) : tLook [] k = none := rfl
mutual
theorem put_congr {a b : Tb} (h : ∀ k, tLook a k = tLook b k) : ∀ t : Tm, t.put a = t.put b
  | .var k => by
    unfold Tm.put
    rw [h k]
  | .of x ts => by
    unfold Tm.put
    rw [puts_congr h ts]
theorem puts_congr {a b : Tb} (h : ∀ k, tLook a k = tLook b k) : ∀ ts : List Tm, Tm.puts a ts = Tm.puts b ts
  | [] => rfl
  | t :: ts => by
    unfold Tm.puts
    rw [put_congr h t, puts_congr h ts]
end
mutual
theorem put_nil : ∀ t : Tm, t.put [] = t
  | .var k => by
    unfold Tm.put
    rw [tLook_nil]
    rfl
  | .of x ts => by
    unfold Tm.put
    rw [puts_nil ts]
theorem puts_nil : ∀ ts : List Tm, Tm.puts [] ts = ts
  | [] => rfl
  | t :: ts => by
    unfold Tm.puts
    rw [put_nil t, puts_nil ts]
end
/-- one table behind the other, in one -/
def Both (one other both : Tb) : Prop := ∀ k, tLook both k = match tLook one k with
  | some t => some (t.put other)
  | none => tLook other k
mutual
theorem put_both {one other both : Tb} (h : Both one other both) : ∀ t : Tm, (t.put one).put other = t.put both
  | .var k => by
    have z := h k
    show ((tLook one k).getD (.var k)).put other = (tLook both k).getD (.var k)
    rw [z]
    cases tLook one k with
    | none =>
      show (Tm.var k).put other = _
      unfold Tm.put
      rfl
    | some t => rfl
  | .of x ts => by
    have e := puts_both h ts
    show Tm.put other (Tm.of x (Tm.puts one ts)) = Tm.of x (Tm.puts both ts)
    rw [← e]
    unfold Tm.put
    rfl
theorem puts_both {one other both : Tb} (h : Both one other both) : ∀ ts : List Tm, Tm.puts other (Tm.puts one ts) = Tm.puts both ts
  | [] => rfl
  | t :: ts => by
    show (t.put one).put other :: Tm.puts other (Tm.puts one ts) = t.put both :: Tm.puts both ts
    rw [put_both h t, puts_both h ts]
end
theorem tLook_cons (p : NestedKey × Tm) (tb : Tb) (k : NestedKey) : tLook (p :: tb) k = if p.1 = k then some p.2 else tLook tb k := by
  unfold tLook
  rw [List.find?_cons]
  by_cases z : p.1 = k
  · rw [decide_eq_true z, if_pos z]
    rfl
  · rw [decide_eq_false z, if_neg z]
theorem tLook_map (f : Tm → Tm) : ∀ (tb : Tb) (k : NestedKey), tLook (tb.map fun p => (p.1, f p.2)) k = (tLook tb k).map f
  | [], k => rfl
  | p :: tb, k => by
    rw [List.map_cons, tLook_cons, tLook_cons, tLook_map f tb k]
    dsimp only
    split <;> rfl
theorem tLook_append : ∀ (a b : Tb) (k : NestedKey), tLook (a ++ b) k = (tLook a k).or (tLook b k)
  | [], b, k => by
    show tLook b k = (none : Option Tm).or _
    rfl
  | p :: a, b, k => by
    show tLook (p :: (a ++ b)) k = _
    rw [tLook_cons, tLook_cons, tLook_append a b k]
    split <;> rfl
theorem tLook_none {tb : Tb} {k : NestedKey} : tLook tb k = none ↔ k ∉ tb.map (·.1) := by
  induction tb with
  | nil => simp [tLook]
  | cons p tb ih =>
    rw [tLook_cons]
    by_cases z : p.1 = k
    · rw [if_pos z]
      simp [z]
    · rw [if_neg z, ih, List.map_cons, List.mem_cons]
      constructor
      · intro h q
        rcases q with q | q
        · exact z q.symm
        · exact h q
      · intro h q
        exact h (.inr q)
theorem tLook_rev {tb : Tb} (n : (tb.map (·.1)).Nodup) (k : NestedKey) : tLook tb.reverse k = tLook tb k := by
  induction tb with
  | nil => rfl
  | cons p tb ih =>
    rw [List.map_cons, List.nodup_cons] at n
    rw [List.reverse_cons, tLook_append, ih n.2, tLook_cons, tLook_cons, tLook_nil]
    by_cases z : p.1 = k
    · rw [if_pos z, if_pos z]
      have : tLook tb k = none := tLook_none.mpr (z ▸ n.1)
      rw [this]
      rfl
    · rw [if_neg z, if_neg z]
      cases tLook tb k <;> rfl
theorem tPut_look (tb : Tb) (k : NestedKey) (t : Tm) (j : NestedKey) : tLook (tPut tb k t) j = if j = k then some t else tLook tb j := by
  unfold tPut
  by_cases h : (tLook tb k).isSome = true
  · rw [if_pos h]
    have go : ∀ tb : Tb, tLook (tb.map fun p => if p.1 = k then (p.1, t) else p) j = if j = k then (if (tLook tb k).isSome = true then some t else none) else tLook tb j := by
      intro tb
      induction tb with
      | nil => simp [tLook]
      | cons p tb ih =>
        rw [List.map_cons, tLook_cons, ih, tLook_cons, tLook_cons]
        by_cases a : p.1 = k
        · rw [if_pos a]
          dsimp only
          rw [if_pos a]
          by_cases b : j = k
          · rw [if_pos b, if_pos (a.trans b.symm), if_pos b]
            rfl
          · rw [if_neg b, if_neg b, if_neg (fun z => b (z.symm.trans a)), if_neg (fun z => b (z.symm.trans a))]
        · rw [if_neg a, if_neg a]
          by_cases b : j = k
          · rw [if_pos b, if_pos b, if_neg (fun z => a (z.trans b))]
          · rw [if_neg b, if_neg b]
    rw [go tb, if_pos h]
  · rw [if_neg h, tLook_append, tLook_cons, tLook_nil]
    have e : tLook tb k = none := by
      cases z : tLook tb k with
      | none => rfl
      | some u => rw [z] at h; exact absurd rfl h
    by_cases b : j = k
    · rw [if_pos b, b, e, if_pos rfl]
      rfl
    · rw [if_neg b, if_neg (fun z => b z.symm)]
      cases tLook tb j <;> rfl
theorem tPut_keys (tb : Tb) (k : NestedKey) (t : Tm) : (tPut tb k t).map (·.1) = if k ∈ tb.map (·.1) then tb.map (·.1) else tb.map (·.1) ++ [k] := by
  unfold tPut
  have q : (tLook tb k).isSome = true ↔ k ∈ tb.map (·.1) := by
    cases z : tLook tb k with
    | none => simp only [Option.isSome_none, Bool.false_eq_true, false_iff]; exact tLook_none.mp z
    | some u =>
      simp only [Option.isSome_some, true_iff]
      exact Classical.byContradiction fun c => by
        rw [tLook_none.mpr c] at z
        cases z
  by_cases h : k ∈ tb.map (·.1)
  · rw [if_pos (q.mpr h), if_pos h, List.map_map]
    refine List.map_congr_left fun p _ => ?_
    show (if p.1 = k then (p.1, t) else p).1 = p.1
    split <;> rfl
  · rw [if_neg (fun z => h (q.mp z)), if_neg h, List.map_append]
    rfl
theorem tPut_nodup {tb : Tb} (k : NestedKey) (t : Tm) (n : (tb.map (·.1)).Nodup) : ((tPut tb k t).map (·.1)).Nodup := by
  rw [tPut_keys]
  split
  · exact n
  · rename_i h
    rw [List.nodup_append]
    refine ⟨n, by simp, fun a ha b hb => ?_⟩
    rw [List.mem_singleton.mp hb]
    exact fun z => h (z ▸ ha)
mutual
/-- a term with such put in, over the same -/
theorem put_in_of {qs : List (Str × Nat)} {ks : List NestedKey} {e : Nat} {tb : Tb} (h : ∀ r ∈ tb, TmIn qs ks e r.2) : ∀ (t : Tm) {d : Nat}, TmIn qs ks d t → TmIn qs ks (d + e) (t.put tb)
  | .var k, d, ht => by
    show TmIn qs ks (d + e) ((tLook tb k).getD (.var k))
    cases z : tLook tb k with
    | none =>
      show TmIn qs ks (d + e) (.var k)
      unfold TmIn at ht ⊢
      exact ht
    | some u =>
      have : ∃ r ∈ tb, r.2 = u := by
        unfold tLook at z
        obtain ⟨r, hr, rfl⟩ := Option.map_eq_some_iff.mp z
        exact ⟨r, List.mem_of_find?_eq_some hr, rfl⟩
      obtain ⟨r, hr, rfl⟩ := this
      exact tmIn_mono _ (by omega) (h r hr)
  | .of x ts, 0, ht => by
    unfold TmIn at ht
    exact ht.elim
  | .of x ts, d + 1, ht => by
    unfold TmIn at ht
    show TmIn qs ks (d + 1 + e) (.of x (Tm.puts tb ts))
    have e1 : d + 1 + e = (d + e) + 1 := by omega
    rw [e1]
    unfold TmIn
    refine ⟨?_, puts_in_of h ts ht.2⟩
    have l : (Tm.puts tb ts).length = ts.length := by rw [puts_map, List.length_map]
    rw [l]
    exact ht.1
theorem puts_in_of {qs : List (Str × Nat)} {ks : List NestedKey} {e : Nat} {tb : Tb} (h : ∀ r ∈ tb, TmIn qs ks e r.2) : ∀ (ts : List Tm) {d : Nat}, TmsIn qs ks d ts → TmsIn qs ks (d + e) (Tm.puts tb ts)
  | [], d, _ => by
    unfold Tm.puts TmsIn
    trivial
  | t :: ts, d, ht => by
    unfold TmsIn at ht
    show TmsIn qs ks (d + e) (t.put tb :: Tm.puts tb ts)
    unfold TmsIn
    exact ⟨put_in_of h t ht.1, puts_in_of h ts ht.2⟩
end
mutual
theorem eqv_tm : ∀ t : Tm, PyData.eqv t.data t.data = true
  | .var k => by
    simp only [Tm.data, PyData.eqv, PyData.eqvAll, eqv_key k, Bool.and_true, beq_self_eq_true]
  | .of x ts => by
    simp only [Tm.data, PyData.eqv, PyData.eqvAll, eqv_tms ts, Bool.and_true, beq_self_eq_true]
theorem eqv_tms : ∀ ts : List Tm, PyData.eqvAll (Tm.datas ts) (Tm.datas ts) = true
  | [] => by simp only [Tm.datas, PyData.eqvAll]
  | t :: ts => by
    simp only [Tm.datas, PyData.eqvAll, eqv_tm t, eqv_tms ts, Bool.and_true]
end
mutual
/-- its names and keys can be laid, its keys are flat -/
def TmLay : Tm → Prop
  | .var k => k.data.canLay0 = true ∧ k.data.depth ≤ 1
  | .of x ts => PyData.strOk x = true ∧ TmsLay ts
def TmsLay : List Tm → Prop
  | [] => True
  | t :: ts => TmLay t ∧ TmsLay ts
end
mutual
theorem tm_lay : ∀ t : Tm, TmLay t → t.data.canLay0 = true ∧ t.data.depth ≤ 2 * t.deep + 2
  | .var k, h => by
    unfold TmLay at h
    have s : PyData.strOk "var" = true := by decide +kernel
    simp only [Tm.data, Tm.deep, PyData.canLay0, PyData.canLayAll0, PyData.depth, PyData.depthAll, h.1, s, Bool.and_self, true_and]
    have := h.2
    omega
  | .of x ts, h => by
    unfold TmLay at h
    have z := tms_lay ts h.2
    have s : PyData.strOk "of" = true := by decide +kernel
    simp only [Tm.data, Tm.deep, PyData.canLay0, PyData.canLayAll0, PyData.depth, PyData.depthAll, h.1, z.1, s, Bool.and_self, true_and]
    have := z.2
    omega
theorem tms_lay : ∀ ts : List Tm, TmsLay ts → PyData.canLayAll0 (Tm.datas ts) = true ∧ PyData.depthAll (Tm.datas ts) ≤ 2 * Tm.deeps ts + 2
  | [], _ => by
    simp only [Tm.datas, Tm.deeps, PyData.canLayAll0, PyData.depthAll, true_and]
    omega
  | t :: ts, h => by
    unfold TmsLay at h
    have a := tm_lay t h.1
    have b := tms_lay ts h.2
    simp only [Tm.datas, Tm.deeps, PyData.canLayAll0, PyData.depthAll, a.1, b.1, Bool.and_self, true_and]
    have := a.2
    have := b.2
    omega
end
mutual
theorem lay_in {qs : List (Str × Nat)} {ks : List NestedKey} (hq : ∀ q ∈ qs, PyData.strOk q.1 = true) (hk : ∀ k ∈ ks, k.data.canLay0 = true ∧ k.data.depth ≤ 1) : ∀ (t : Tm) {d : Nat}, TmIn qs ks d t → TmLay t
  | .var k, d, h => by
    unfold TmIn at h
    unfold TmLay
    exact hk k h
  | .of x ts, 0, h => by
    unfold TmIn at h
    exact h.elim
  | .of x ts, d + 1, h => by
    unfold TmIn at h
    unfold TmLay
    exact ⟨hq _ h.1, lays_in hq hk ts h.2⟩
theorem lays_in {qs : List (Str × Nat)} {ks : List NestedKey} (hq : ∀ q ∈ qs, PyData.strOk q.1 = true) (hk : ∀ k ∈ ks, k.data.canLay0 = true ∧ k.data.depth ≤ 1) : ∀ (ts : List Tm) {d : Nat}, TmsIn qs ks d ts → TmsLay ts
  | [], d, _ => by
    unfold TmsLay
    trivial
  | t :: ts, d, h => by
    unfold TmsIn at h
    unfold TmsLay
    exact ⟨lay_in hq hk t h.1, lays_in hq hk ts h.2⟩
end
/-! ### how long its repr can be -/
mutual
theorem cnt_in {qs : List (Str × Nat)} {ks : List NestedKey} (hq : ∀ q ∈ qs, q.2 ≤ 2 ∧ strSm q.1 = true) (hk : ∀ k ∈ ks, smD k.data = true ∧ cnt k.data ≤ 5) : ∀ (t : Tm) {d : Nat}, TmIn qs ks d t → smD t.data = true ∧ cnt t.data + 4 ≤ 12 * 2 ^ d
  | .var k, d, h => by
    unfold TmIn at h
    obtain ⟨h1, h2⟩ := hk k h
    have s : strSm "var" = true := by decide +kernel
    simp only [Tm.data, smD, smAll, cnt, cntAll, h1, s, Bool.and_self, true_and]
    have : 1 ≤ 2 ^ d := Nat.one_le_two_pow
    omega
  | .of x ts, 0, h => by
    unfold TmIn at h
    exact h.elim
  | .of x ts, d + 1, h => by
    unfold TmIn at h
    obtain ⟨h1, h2⟩ := hq _ h.1
    obtain ⟨h3, h4⟩ := cnts_in hq hk ts h.2
    have s : strSm "of" = true := by decide +kernel
    have h2' : strSm x = true := h2
    simp only [Tm.data, smD, smAll, cnt, cntAll, h2', h3, s, Bool.and_self, true_and]
    have l : ts.length ≤ 2 := h1
    have p : 1 ≤ 2 ^ d := Nat.one_le_two_pow
    have e : 2 ^ (d + 1) = 2 ^ d + 2 ^ d := by rw [Nat.pow_succ]; omega
    rw [e]
    have : ts.length = 0 ∨ ts.length = 1 ∨ ts.length = 2 := by omega
    rcases this with z | z | z <;> rw [z] at h4 <;> omega
theorem cnts_in {qs : List (Str × Nat)} {ks : List NestedKey} (hq : ∀ q ∈ qs, q.2 ≤ 2 ∧ strSm q.1 = true) (hk : ∀ k ∈ ks, smD k.data = true ∧ cnt k.data ≤ 5) : ∀ (ts : List Tm) {d : Nat}, TmsIn qs ks d ts → smAll (Tm.datas ts) = true ∧ cntAll (Tm.datas ts) + 4 * ts.length ≤ ts.length * (12 * 2 ^ d)
  | [], d, _ => by
    simp only [Tm.datas, smAll, cntAll, true_and]
    simp
  | t :: ts, d, h => by
    unfold TmsIn at h
    obtain ⟨a1, a2⟩ := cnt_in hq hk t h.1
    obtain ⟨b1, b2⟩ := cnts_in hq hk ts h.2
    simp only [Tm.datas, smAll, cntAll, a1, b1, Bool.and_self, true_and]
    rw [List.length_cons, Nat.add_mul]
    omega
end
end L2.Vf
/-! Functions that are made on the way and handed on: they stand in the base of the def that is called with them. -/
namespace L2.Vf
open PySem PySem.Spec PyProof.Rows
/-- the heap here, without what is tracked and without the frames -/
def baseOf (h : Heap) (H : Hp) (fs : List Addr) : Heap := hidT h (fun b => if b ∈ fs then some (.tbl #[]) else H b)
theorem of_baseOf {h : Heap} {H : Hp} {fs : List Addr} {b : Addr} {o : Obj} (e : (baseOf h H fs).get? b = some o) : h.get? b = some o ∧ H b = none ∧ b ∉ fs := by
  obtain ⟨h1, h2⟩ := of_hidT e
  by_cases z : b ∈ fs
  · rw [if_pos z] at h2
    cases h2
  · rw [if_neg z] at h2
    exact ⟨h1, h2, z⟩
theorem baseOf_get {h : Heap} {H : Hp} {fs : List Addr} {b : Addr} {o : Obj} (e : h.get? b = some o) (n : H b = none) (f : b ∉ fs) : (baseOf h H fs).get? b = some o :=
  hidT_get e (by rw [if_neg f]; exact n)
section
variable {X : Cx} {pins : List (Addr × Obj)} {σ : St} {H : Hp} {s : Shared}
theorem fun_frames {h base base' : Heap} : ∀ {l : List Env}, h.FunFrames base l → (∀ b ∈ frs l, base'.get? b = none) → h.FunFrames base' l
  | [], _, _ => True.intro
  | env :: rest, hl, n => by
    obtain ⟨hk, ⟨L, o, hf, hn, ho, hd⟩, hr⟩ := hl
    have mem : L ∈ frs (env :: rest) := by
      show L ∈ (env :: rest).filterMap (·.frame)
      rw [List.filterMap_cons, hf]
      exact List.mem_cons_self
    refine ⟨hk, ⟨L, o, hf, n L mem, ho, hd⟩, fun_frames hr fun b hb => n b ?_⟩
    show b ∈ (env :: rest).filterMap (·.frame)
    rw [List.filterMap_cons, hf]
    exact List.mem_cons_of_mem _ hb
/-- what a def that is called here finds, its base this very heap -/
theorem env0_here (I : Inv X pins σ H s) : Env0 X.prog X.w X.K X.mg (baseOf s.heap H (frs X.stack)) X.A X.stack s H := by
  have e0 := I.env0
  have up : ∀ b o, X.base.get? b = some o → (baseOf s.heap H (frs X.stack)).get? b = some o := fun b o e => by
    obtain ⟨h1, h2⟩ := e0.bs b o e
    refine baseOf_get h1 h2 fun z => ?_
    obtain ⟨h3, _⟩ := e0.funs.mem z
    rw [h3] at e
    cases e
  refine ⟨e0.frames, ?_, fun b o e => ⟨(of_baseOf e).1, (of_baseOf e).2.1⟩, Nat.le_of_eq (hidT_size _ _), fun_frames e0.funs fun b hb => ?_, e0.frf, e0.hok, e0.bare⟩
  · obtain ⟨kin, glob, ⟨mb, hb, hbb⟩, mc, h1, h2⟩ := e0.mod
    exact ⟨kin.keeps up, glob.keeps up, ⟨mb, hb.keeps up, hbb⟩, mc, h1.keeps up, h2⟩
  · cases q : (baseOf s.heap H (frs X.stack)).get? b with
    | none => rfl
    | some o => exact absurd hb (of_baseOf q).2.2
end
section
variable {CX : CXT} {P : Program} {w : World} {K : PySem.W.Frag} {mg : Str → Option Value} {base : Heap} {k : Nat} {f c' : Addr}
open NdefX LamX
/-- the words of a lambda -/
abbrev lamF (qual : Str) (params : Arguments) (scope : Scope) (cl : List (Str × Addr)) (c' : Addr) : NF := ⟨"<lambda>", qual, params, [], scope, cl, c'⟩
/-- what the captured cells hold, in the base -/
structure CellsB (base : Heap) (cl : List (Str × Addr)) (fr : List Str) (ws : List (Option V)) : Prop where
  len : ws.length = fr.length
  all : ∀ y c, cl.lookup y = some c → ∃ v, base.IsCell c v
  inj : ∀ x y c, cl.lookup x = some c → cl.lookup y = some c → x = y
  has : ∀ (i : Nat) (y : Str), fr[i]? = some y → ∃ c, cl.lookup y = some c ∧ ∀ v, ws[i]? = some (some v) → ∃ u, RelV v u ∧ base.IsCell c (some u)
/-- THE RULE: a lambda whose object stands in the base -/
theorem fn_lam {qual : Str} {params : Arguments} {body : Expr} {scope : Scope} {cl : List (Str × Addr)} {pm ctv : Value} {N ps fr : List Str} {ws : List (Option V)} {sp : Sp}
    (ob : base.get? f = some (PySem.W.kla_obj "<lambda>" qual params body scope cl pm c' ctv)) (S : NScope N ps fr scope) (C : CellsB base cl fr ws)
    (len : ∀ vs H Q E, sp vs H Q E → vs.length = ps.length) (code : ∀ vs H Q E, sp vs H Q E → H c' = some (CodeO c' qual))
    (hbody : ∀ (A : Around) (outer : List Env) (s : Shared) (H : Hp) (vs : List V) (Q : VK) (E : XK), Room k (A.deeper (envF (lamF qual params scope cl c') f s.heap.objs.size)) → sp vs H Q E →
      ∃ t, PE (ncx CX P w K mg base N (lamF qual params scope cl c') f A outer s H E) body t ∧ t (startF N vs ws) H Q) :
    FnOk P w K mg base CX (k + 1) f (PySem.W.kla_fn "<lambda>" qual params body scope cl pm (.ref c') ctv) ps sp := by
  refine ⟨len, fun A outer s H args us vs Q E hr e0 hb r hsp => ?_⟩
  have hl := len _ _ _ _ hsp
  have lim : s.heap.NoLimit := e0.mod.nolimit.keeps fun b o e => (e0.bs b o e).1
  have cellK : ∀ {c : Addr} {v : Option Value}, base.IsCell c v → H c = none ∧ s.heap.IsCell c v := fun {c v} ⟨o, ho, hd⟩ => ⟨(e0.bs _ _ ho).2, o, (e0.bs _ _ ho).1, hd⟩
  have C0 : CellsAt (lamF qual params scope cl c').cl fr ws s.heap H := ⟨C.len, fun y c e => by
      obtain ⟨v, hv⟩ := C.all y c e
      exact ⟨(cellK hv).1, v, (cellK hv).2⟩, C.inj, fun i y e => by
      obtain ⟨c, h1, h2⟩ := C.has i y e
      refine ⟨c, h1, fun v hv => ?_⟩
      obtain ⟨u, h3, h4⟩ := h2 v hv
      exact ⟨u, h3, (cellK h4).2⟩⟩
  refine PySem.W.kla_callFunE hr.depth (e0.bs _ _ ob).1 rfl S.co S.gen rfl (codeO_at e0.hok (code _ _ _ _ hsp)) (hb _ _ _ _ ?_)
  refine wpAny_newFunctionEnv S.nocell (fun ⟨n, _⟩ hy => S.par n (List.of_mem_zip hy).1) (fun h₁ hns hsb => ⟨lim.fresh _ hsb, ?_⟩) S.kind
  show codeAny _ _ (.expr body (envF (lamF qual params scope cl c') f s.heap.objs.size)) _ _
  have kp : ∀ b o, s.heap.get? b = some o → h₁.get? b = some o := fun b o e => hsb.extBut b o (Nat.ne_of_lt (Heap.lt_size e)) (Heap.get?_push_of_some _ e)
  obtain ⟨t, ht, hq⟩ := hbody A outer s H vs Q E (hr.deeper _) hsp
  have I : Inv (ncx CX P w K mg base N (lamF qual params scope cl c') f A outer s H E) [] (startF N vs ws) H { s with heap := h₁, toks := s.toks + (ps.zip us).length } := inv_startN S hr.hd e0 hl r C0 hns kp
  refine PySem.W.kla_codeExpr (wpAny_mono (ht.run [] _ (startF N vs ws) H Q I hq) (fun v s' hs => ?_) fun e s' hs => hs)
  obtain ⟨v', H', J, rv, q⟩ := hs
  exact ⟨v', H', J.os, J.bare, J.base, J.hok, rv, q⟩
/-! ### a name that holds a def, called -/
/-- a(e, ..), a the local name in slot i -/
def tCallL (P : Program) (w : World) (K : PySem.W.Frag) (mg : Str → Option Value) (base : Heap) (CX : CXT) (k i : Nat) (E : XK) (ta : TA) : TE := fun σ H Q => ∃ (f : Addr) (fd : FuncData) (ps : List Str) (sp : Sp), σ[i]? = some (some (.ref f)) ∧
  PySem.W.FnAt f base ∧ FnOk P w K mg base CX k f fd ps sp ∧ Binds K fd ps [] ∧ ta σ H fun vs H1 => sp vs H1 Q E
theorem pe_callL {X : Cx} {CX : CXT} {k i : Nat} {E : XK} {a : Str} {e : Expr} {es : List Expr} {ta : TA} {p pos : Pos} (hr : Room k X.A) (hN : X.N[i]? = some a) (hv : Vis X.env.scope a) (hx : Passes CX X E) (ha : PA X (e :: es) ta)
    (hd : (a == ("__debug__" : Str)) = false := by decide) (hcd : (a == ("__classdict__" : Str)) = false := by decide)
    (he : starEach (e :: es) X.env = (false, eval e X.env) :: starEach es X.env := by rfl) (hpl : (backTo pos (starEach es X.env)).any (·.1) = false := by rfl) :
    PE X (.Call (.Name a p) (e :: es) [] pos) (tCallL X.prog X.w X.K X.mg X.base CX k i E ta) := by
  refine ⟨fun pins s σ H Q I h => ?_⟩
  obtain ⟨f, fd, ps, sp, hs, hat, F, hb, h⟩ := h
  refine wpAny_Call_Name_kw (thn ((pe_var (pos := p) (i := i) hN hv hd hcd).run pins s σ H (fun v H1 => v = .ref f ∧ H1 = H) I ⟨.ref f, hs, rfl, rfl⟩) fun u s1 ⟨v, H1, I1, r1, q1⟩ => ?_)
  obtain ⟨ev, eH⟩ := q1
  subst ev
  rw [eH] at I1
  obtain rfl : u = Value.ref f := r1
  have up : ∀ {s' : Shared} {H' : Hp}, Inv X pins σ H' s' → PySem.W.FnAt f s'.heap := fun J => by
    obtain ⟨a1, a2, a3, a4, h0⟩ := hat
    exact ⟨a1, a2, a3, a4, J.bk _ _ h0⟩
  refine PySem.W.callWith_F (up I1) (thn (ha.run pos pins s1 σ H _ I1 h) fun us s2 ⟨vs, H2, I2, r, q⟩ => ⟨up I2, ?_⟩) he hpl
  exact run_fn F hr hb .nil hx I2 r (by rw [List.append_nil]; exact q)
end
end L2.Vf
/-! The call of a def with two functions that are made for it. -/
namespace L2.Vf
open PySem PySem.Spec PyProof.Rows
open NdefX LamX
section
variable {X : Cx} {pins : List (Addr × Obj)} {σ : St} {H : Hp} {s : Shared}
/-- a cell of the running def's own lies in no frame -/
theorem cell_frames (I : Inv X pins σ H s) {y : Str} {c : Addr} (hf : X.fn y = true) (hc : X.env.cells.lookup y = some c) : c ∉ frs X.stack := fun z => by
  rcases List.mem_cons.mp (I.stkSub _ z) with e | e
  · obtain ⟨m, ⟨o, es, ep, ho, hd, _⟩, _⟩ := I.loc
    obtain ⟨v, o2, ho2, hd2⟩ := I.cell y c hc
    rw [e, ho] at ho2
    cases ho2
    rw [hd] at hd2
    cases hd2
  · obtain ⟨_, o, ho, _⟩ := I.ok.funs.mem e
    exact Nat.lt_irrefl _ (Nat.lt_of_lt_of_le (Heap.lt_size ho) (I.ok.cab y c hf hc))
/-- what a made function captured, in the base -/
theorem cellsB_of {scope : Scope} {fr : List Str} {js : List Nat} (I : Inv X pins σ H s) (hfree : ∀ y ∈ scope.names, y.2 = .free → X.env.scope.names.lookup y.1 = some .cell ∨ X.env.scope.names.lookup y.1 = some .free)
    (hown : ∀ y ∈ scope.names, y.2 = .free → X.fn y.1 = true) (hfr : ∀ y ∈ fr, (y, NameKind.free) ∈ scope.names) (hjs : js.map (fun j => X.N[j]?) = fr.map some) :
    CellsB (baseOf s.heap H (frs X.stack)) (cloFrom X.env.cells scope.names []) fr (js.map (slotAt σ)) := by
  have cp := Caps.made I.ok hfree hfr hjs
  obtain ⟨h1, h2, h3, h4⟩ := cells_of I cp
  have up : ∀ {y c v}, (cloFrom X.env.cells scope.names []).lookup y = some c → H c = none → s.heap.IsCell c v → (baseOf s.heap H (frs X.stack)).IsCell c v := fun {y c v} e n ⟨o, ho, hd⟩ => by
    refine ⟨o, baseOf_get ho n (cell_frames I (hown (y, .free) ?_ rfl) (cp.sub y c e)), hd⟩
    rcases cloFrom_mem (PySem.mem_of_lookup e) with hm | ⟨q, _⟩
    · cases hm
    · exact q
  refine ⟨h1, fun y c e => ?_, h3, fun i y e => ?_⟩
  · obtain ⟨n, v, hv⟩ := h2 y c e
    exact ⟨v, up e n hv⟩
  · obtain ⟨c, e1, e2⟩ := h4 i y e
    refine ⟨c, e1, fun v hv => ?_⟩
    obtain ⟨u, r, k⟩ := e2 v hv
    exact ⟨u, r, up e1 (h2 y c e1).1 k⟩
end
/-- the words of a lambda in the text -/
structure Lm where
  params : Arguments
  body : Expr
  scope : Scope
  pos : Pos
abbrev Lm.expr (l : Lm) : Expr := .Lambda l.params l.body l.scope l.pos
/-- the object at f is this lambda, made here -/
abbrev Lm.At (l : Lm) (X : Cx) (b : Heap) (f c' : Addr) (pm ctv : Value) : Prop := b.get? f = some (PySem.W.kla_obj "<lambda>" (X.env.qual ++ "<lambda>") l.params l.body l.scope (cloFrom X.env.cells l.scope.names []) pm c' ctv)
/-- its names are plain and captured from the running def's own -/
structure Lm.Ok (l : Lm) (X : Cx) (fr : List Str) (js : List Nat) : Prop where
  defs : defaultsOf l.params X.env = ([], [])
  free : ∀ y ∈ l.scope.names, y.2 = .free → X.env.scope.names.lookup y.1 = some .cell ∨ X.env.scope.names.lookup y.1 = some .free
  own : ∀ y ∈ l.scope.names, y.2 = .free → X.fn y.1 = true
  cap : ∀ y ∈ fr, (y, NameKind.free) ∈ l.scope.names
  at_ : js.map (fun j => X.N[j]?) = fr.map some
/-- what is known of a lambda that was made here, in the base of the def that is called with it -/
structure Lm.Made (l : Lm) (X : Cx) (b : Heap) (H : Hp) (f : Addr) (fr : List Str) (ws : List (Option V)) : Prop where
  ex : ∃ (c' : Addr) (pm ctv : Value), l.At X b f c' pm ctv ∧ H c' = some (CodeO c' (X.env.qual ++ "<lambda>"))
  cells : CellsB b (cloFrom X.env.cells l.scope.names []) fr ws
def tFold2 (X : Cx) (T : List (Addr × Str)) (spG : Heap → Sp) (l1 l2 : Lm) (fr1 fr2 : List Str) (js1 js2 : List Nat) (E : XK) (te : TE) : TE := fun σ H Q => te σ H fun v H0 => Tabs T H0 ∧ ∀ (b : Heap) (f1 f2 : Addr) (H2 : Hp), ExtN H0 H2 → Tabs T H2 → X.K.In b → b.Ns mainGlobals X.mg →
  l1.Made X b H2 f1 fr1 (js1.map (slotAt σ)) → l2.Made X b H2 f2 fr2 (js2.map (slotAt σ)) → spG b [v, .ref f1, .ref f2] H2 Q E
section
variable {X : Cx} {CX : CXT} {k : Nat} {g : Addr} {fd : FuncData} {ps : List Str} {spG : Heap → Sp} {E : XK} {x : Str} {p pos : Pos} {e : Expr} {te : TE} {T : List (Addr × Str)} {c P : Addr} {l1 l2 : Lm} {fr1 fr2 : List Str} {js1 js2 : List Nat}
theorem pe_fold2 (G : ∀ base : Heap, X.K.In base → base.Ns mainGlobals X.mg → FnOk X.prog X.w X.K X.mg base CX k g fd ps (spG base)) (hr : Room k X.A) (hg : Gl X x) (hm : X.mg x = some (.ref g)) (hk : PySem.W.keepIn X.K (.ref g) = true) (hb : Binds X.K fd ps []) (hx : Passes CX X E) (he : PE X e te)
    (TB : TabB X.base X.mg c P) (hcode : X.env.code = .ref c) (hmT : (P, X.env.qual ++ "<lambda>") ∈ T) (hu : ∀ p ∈ T, p.1 = P → p.2 = X.env.qual ++ "<lambda>") (O1 : l1.Ok X fr1 js1) (O2 : l2.Ok X fr2 js2)
    (hdb : (x == ("__debug__" : Str)) = false := by decide)
    (hst : starEach [e, l1.expr, l2.expr] X.env = [(false, eval e X.env), (false, eval l1.expr X.env), (false, eval l2.expr X.env)] := by rfl)
    (hpl : (backTo pos (starEach [l1.expr, l2.expr] X.env)).any (·.1) = false := by rfl) :
    PE X (.Call (.Name x p) [e, l1.expr, l2.expr] [] pos) (tFold2 X T spG l1 l2 fr1 fr2 js1 js2 E te) := by
  refine ⟨fun pins s σ H Q I h => ?_⟩
  refine wpAny_Call_Name_kw (ld_glob I hg hm ?_ hdb)
  refine PySem.W.callWith_K (h₀ := X.base) I.ok.mod.kin hk ?_ hst hpl
  rw [hst]
  show wpAny _ _ (spliced ((false, eval e X.env) :: (false, eval l1.expr X.env) :: (false, eval l2.expr X.env) :: [])) _ _ s
  refine Calls.spliced_cons (thn (he.run pins s σ H _ I h) fun u s1 ⟨v, H1, I1, r1, hT, q⟩ => ?_)
  have hf : ∀ {l : Lm} {fr : List Str} {js : List Nat}, l.Ok X fr js → ∀ y ∈ l.scope.names, y.2 = .free → ∃ c, X.env.cells.lookup y.1 = some c := fun O y hy e => (O.free y hy e).elim (fun z => I.ok.has _ (.inl z)) fun z => I.ok.has _ (.inr z)
  refine Calls.spliced_cons (lam_make2 I1 TB hcode hmT hu hT O1.defs (hf O1) fun f1 c1 pm1 ct1 H2 s2 I2 eN2 T2 hf1 hfn1 hfr1 hco1 => ?_)
  have dL : f1 ≠ X.env.locals := fun z => by
    obtain ⟨m, ⟨o, es, ep, ho, hd, _⟩, _⟩ := I2.loc
    rw [← z, hf1] at ho
    cases ho
    cases hd
  have nF : f1 ∉ X.fs := fun z => by
    rcases I2.ok.stk with w | ⟨w, _⟩
    · exact hfr1 (by rw [w]; exact z)
    · exact hfr1 (by
        rw [w]
        show f1 ∈ (X.env :: X.outer).filterMap (·.frame)
        obtain ⟨a, ha, hb⟩ := List.mem_filterMap.mp (show f1 ∈ X.outer.filterMap (·.frame) from z)
        exact List.mem_filterMap.mpr ⟨a, List.mem_cons_of_mem _ ha, hb⟩)
  have J2 : Inv X ((f1, PySem.W.kla_obj "<lambda>" (X.env.qual ++ "<lambda>") l1.params l1.body l1.scope (cloFrom X.env.cells l1.scope.names []) pm1 c1 ct1) :: pins) σ H2 s2 := I2.pins_of fun p hp => by
    rcases List.mem_cons.mp hp with e | e
    · subst e
      exact ⟨hf1, hfn1, dL, nF, fun v z => by cases z⟩
    · exact I2.pin p (List.mem_append_right _ e)
  refine Calls.spliced_cons (lam_make2 J2 TB hcode hmT hu T2 O2.defs (hf O2) fun f2 c2 pm2 ct2 H3 s3 J3 eN3 T3 hf2 hfn2 hfr2 hco2 => ?_)
  obtain ⟨hf1', hfn1', _, _, _⟩ := J3.pin _ (List.mem_append_right _ List.mem_cons_self)
  have I3 : Inv X pins σ H3 s3 := J3.pins_of fun p hp => J3.pin p (List.mem_append_right _ (List.mem_cons_of_mem _ hp))
  refine Calls.spliced_nil ⟨I3.kIn, ?_⟩
  have e3 := env0_here I3
  have M1 : l1.Made X (baseOf s3.heap H3 (frs X.stack)) H3 f1 fr1 (js1.map (slotAt σ)) := ⟨⟨c1, pm1, ct1, baseOf_get hf1' hfn1' hfr1, eN3 _ _ hco1 codeO_ne⟩, cellsB_of I3 O1.free O1.own O1.cap O1.at_⟩
  have M2 : l2.Made X (baseOf s3.heap H3 (frs X.stack)) H3 f2 fr2 (js2.map (slotAt σ)) := ⟨⟨c2, pm2, ct2, baseOf_get hf2 hfn2 hfr2, hco2⟩, cellsB_of I3 O2.free O2.own O2.cap O2.at_⟩
  have q' := q _ f1 f2 H3 (eN2.trans eN3) T3 e3.mod.kin e3.mod.glob M1 M2
  have F := G _ e3.mod.kin e3.mod.glob
  have b := hb s3 [u, .ref f1, .ref f2] I3.kIn (by rw [List.append_nil]; exact F.len _ _ _ _ q')
  rw [List.append_nil] at b
  show wpAny _ _ (call (.ref g) [u, .ref f1, .ref f2]) _ _ _
  refine wpAny_call (codeAny_mono (F.run X.A X.stack s3 H3 ⟨[u, .ref f1, .ref f2], []⟩ [u, .ref f1, .ref f2] [v, .ref f1, .ref f2] Q E hr e3 b (.cons r1 (.cons rfl (.cons rfl .nil))) q') fun r s' hq => ?_)
  cases r with
  | error e => exact hx pins σ H3 s3 e s' I3 hq
  | ok fl =>
    cases fl with
    | ret u => exact I3.after hq
    | next => exact False.elim hq
    | brk => exact False.elim hq
    | cont => exact False.elim hq
end
end L2.Vf
/-! Tuples and lists: t[::-1]. -/
namespace L2.Vf
open PySem PySem.Spec PyProof.Rows
open PySem.Calls HT
theorem adjust_rev (n : Nat) : Builtin.Slice.sliceAdjust none none (-1) (n : Int) = ((n : Int) - 1, -1) := by
  unfold Builtin.Slice.sliceAdjust
  simp
theorem places_rev (n : Nat) : Builtin.Slice.slicePlaces ((n : Int) - 1) (-1) (-1) = n := by
  unfold Builtin.Slice.slicePlaces
  have h1 : ¬ ((-1 : Int) > 0) := by omega
  simp only [h1, if_false]
  split <;> simp_all <;> omega
theorem fm_congr {α β : Type} {f g : α → Option β} : ∀ {l : List α}, (∀ a ∈ l, f a = g a) → l.filterMap f = l.filterMap g
  | [], _ => rfl
  | a :: l, h => by
    rw [List.filterMap_cons, List.filterMap_cons, h a List.mem_cons_self, fm_congr fun b hb => h b (List.mem_cons_of_mem _ hb)]
theorem pick_rev (xs : Array Value) : ((List.range xs.size).filterMap fun (m : Nat) => xs[((xs.size : Int) - 1 + (m : Int) * (-1)).toNat]?).toArray = xs.toList.reverse.toArray := by
  have e : (List.range xs.size).filterMap (fun (m : Nat) => xs[((xs.size : Int) - 1 + (m : Int) * (-1)).toNat]?) = ((List.range xs.size).map fun k => xs.size - 1 - k).filterMap (xs[·]?) := by
    rw [List.filterMap_map]
    refine fm_congr fun m hm => ?_
    have := List.mem_range.mp hm
    have z : ((xs.size : Int) - 1 + (m : Int) * (-1)).toNat = xs.size - 1 - m := by omega
    show xs[((xs.size : Int) - 1 + (m : Int) * (-1)).toNat]? = xs[xs.size - 1 - m]?
    rw [z]
  rw [e, PySem.W.krv_range, List.filterMap_reverse, PySem.W.krv_all]
section
variable {prog : Program} {w : World} {A : Around} {E : Value → Shared → Prop} {s : Shared}
theorem sliceApplied_rev {sl : Addr} {vl vu vs : Value} {n : Nat} {Q : Int × Int × Nat → Shared → Prop} (hs : s.heap.IsSliceOf sl vl vu vs) (pl : IsPart vl none) (pu : IsPart vu none) (ps : IsPart vs (some (-1)))
    (h : Q ((n : Int) - 1, -1, n) s) : wpAny (model prog w) A (Builtin.Slice.sliceApplied (.ref sl) (pure (n : Int))) Q E s := by
  obtain ⟨os, hos, hcs, hds⟩ := id hs
  unfold Builtin.Slice.sliceApplied Builtin.Slice.sliceFields
  refine wpAny_bind (wpAny_bind (wpAny_field hos hds (x := vl) rfl (wpAny_bind (wpAny_field hos hds (x := vu) rfl (wpAny_bind (wpAny_field hos hds (x := vs) rfl (wpAny_pure ?_)))))))
  refine wpAny_bind (slicePart_ ps ?_)
  show wpAny _ _ (if ((-1 : Int) == 0) = true then _ else _) _ _ s
  rw [if_neg (by decide)]
  refine wpAny_bind (slicePart_ pl (wpAny_bind (slicePart_ pu (wpAny_bind (wpAny_pure ?_)))))
  show wpAny _ _ (match Builtin.Slice.sliceAdjust none none (-1) (n : Int) with | (lo, hi) => pure (lo, (-1 : Int), Builtin.Slice.slicePlaces lo hi (-1))) _ _ s
  rw [adjust_rev]
  show wpAny _ _ (pure ((n : Int) - 1, (-1 : Int), Builtin.Slice.slicePlaces ((n : Int) - 1) (-1) (-1))) _ _ s
  rw [places_rev]
  exact wpAny_pure h
theorem getItem_tuple_rev {t sl : Addr} {items : Array Value} {vl vu vs : Value} {Q : Value → Shared → Prop} (ht : IsTup s.heap t items) (hs : s.heap.IsSliceOf sl vl vu vs) (pl : IsPart vl none) (pu : IsPart vu none) (ps : IsPart vs (some (-1)))
    (h : Q (.ref s.heap.objs.size) { s with heap := s.heap.push { cls := .type "tuple", data := .seq items.toList.reverse.toArray } })
    (hsz : items.size ≤ sizeLine) : wpAny (model prog w) A (getItem (.ref t) (.ref sl)) Q E s := by
  have htake : sizeOk (.seq items.toList.reverse.toArray) := by
    show items.toList.reverse.toArray.size ≤ sizeLine
    rw [List.size_toArray, List.length_reverse, Array.length_toList]
    exact hsz
  obtain ⟨os, hos, hcs, hds⟩ := id hs
  have hTs : s.TypeIs (.ref sl) "slice" := ⟨os, hos, hcs⟩
  unfold getItem
  try with_reducible refine wpAny_holding ?_
  first | refine wpAny_bind (wpAny_pure ?_) | skip
  refine wpAny_bind (wpAny_sequenceKey ht.typeIs (by decide) ?_)
  refine wpAny_bind (wpAny_callSpecial?_slot (name := Str.ofString "__getitem__") ht.typeIs PyProof.Rows.slot_tuple_getitem
    (wpAny_call_entry PyProof.Rows.slot_tuple_getitem ht.typeIs entry_tuple_getitem ?_ (args_tuple_getitem _ _)))
  show wpAny _ _ (Builtin.Tuple.tupleItemsOf (.ref t) >>= _) _ _ s
  refine wpAny_bind (tupleItemsOf_ ht ?_)
  refine wpAny_bind (wpAny_typeOf hTs ?_)
  rw [if_pos (by decide)]
  refine wpAny_bind (sliceApplied_rev hs pl pu ps ?_)
  have hno : ¬ ((((items.size : Int) - 1 == 0) && ((-1 : Int) == 1) && (items.size == items.size)) = true) := by
    intro q
    rw [Bool.and_eq_true, Bool.and_eq_true] at q
    exact absurd (eq_of_beq q.1.2) (by decide)
  show wpAny _ _ (if (((items.size : Int) - 1 == 0) && ((-1 : Int) == 1) && (items.size == items.size)) = true then _ else _) _ _ s
  rw [if_neg hno, pick_rev]
  first
    | exact wpAny_bind (m := Builtin.Tuple.tupleExact _) (wpAny_newObj_type (wpAny_pure ⟨_, rfl, wpAny_pure h⟩) htake)
    | exact wpAny_bind (m := Builtin.Tuple.tupleExact _) (wpAny_newObj_type (wpAny_bind (wpAny_pure (wpAny_pure ⟨_, rfl, wpAny_pure h⟩))) htake)
    | exact wpAny_bind (wpAny_bind (m := Builtin.Tuple.tupleExact _) (wpAny_newObj_type (wpAny_pure (wpAny_pure ⟨_, rfl, wpAny_pure h⟩)) htake))
    | exact wpAny_bind (wpAny_bind (m := Builtin.Tuple.tupleExact _) (wpAny_newObj_type (wpAny_pure ⟨_, rfl, wpAny_pure h⟩) htake))
end
/-- t[::-1] of a tuple -/
def tRevT (K : PySem.W.Frag) (te : TE) : TE := fun σ H Q => te σ H fun x H1 => ∃ a xs, x = .ref a ∧ SqT K H1 a xs ∧ ∀ p, H1 p = none → Q (.ref p) (upd H1 p (.tup xs.reverse))
theorem pe_revT {X : Cx} {e : Expr} {te : TE} {k : Nat} {p1 p2 p3 pos : Pos} (he : PE X e te) : PE X (.Subscript e (.Slice none none (some (.UnaryOp .USub (.Constant (.int 1) k p1) p2)) p3) pos) (tRevT X.K te) := by
  refine ⟨fun pins s σ H Q I h => ?_⟩
  refine Subscript_ (thn (he.run pins s σ H _ I h) fun v s1 ⟨x, H1, I1, r1, q1⟩ => ?_)
  obtain ⟨a, xs, ex, hx, q⟩ := q1
  subst ex
  cases r1
  have hst : PO X (some (.UnaryOp .USub (.Constant (.int 1) k p1) p2)) (tPart (tUn (rU fun i => .int (-i)) (tC (.int 1)))) := po_some (pe_un un_neg pe_int)
  refine wpAny_Slice (thn (po_none.run pins s1 σ H1 (fun o H2 => o = none ∧ H2 = H1) I1 ⟨rfl, rfl⟩) fun vl s2 ⟨l, H2, I2, pl, el, e2⟩ => ?_)
  subst el e2
  refine thn (po_none.run pins s2 σ H2 (fun o H3 => o = none ∧ H3 = H2) I2 ⟨rfl, rfl⟩) fun vu s3 ⟨u, H3, I3, pu, eu, e3⟩ => ?_
  subst eu e3
  refine thn (hst.run pins s3 σ H3 (fun o H4 => o = some (-1) ∧ H4 = H3) I3 ⟨1, rfl, -1, rfl, rfl, rfl⟩) fun vs s4 ⟨o, H4, I4, ps, eo, e4⟩ => ?_
  subst eo e4
  have I5 : Inv X pins σ H4 { s4 with heap := s4.heap.push { cls := .type "slice", data := .fields #[vl, vu, vs] } } := I4.kept (t' := s4.toks) fun b ob q => Heap.get?_push_of_some _ q
  obtain ⟨its, r, ht, hz⟩ := I5.tuple hx
  have hlen : its.toArray.size = xs.length := by rw [List.size_toArray]; exact r.length.symm
  show wpAny (model X.prog X.w) X.A (subscriptTail e (.Slice none none (some (.UnaryOp .USub (.Constant (.int 1) k p1) p2)) p3) (.ref a) (.ref s4.heap.objs.size)) (EP X pins σ Q) X.xe { s4 with heap := s4.heap.push { cls := .type "slice", data := .fields #[vl, vu, vs] } }
  refine tail_any (ops := [.ref a, .ref s4.heap.objs.size]) ht.typeIs (PyProof.Rows.slot_tuple_getitem.lookup) ?_ (by with_unfolding_all rfl)
  refine getItem_tuple_rev ht (Heap.IsSliceOf.new _ vl vu vs) pl pu ps ?_ (by rw [hlen]; exact hz)
  refine ⟨.ref _, _, I5.laid (t' := s4.toks) (o := .tup xs.reverse) (fun b ob q => Heap.get?_push_of_some _ q) (Nat.le_refl _) ?_, rfl, q _ (I5.hok.fresh (Nat.le_refl _))⟩
  exact ⟨by rw [List.length_reverse]; exact hz, _, r.reverse, IsTup.new _ _⟩
end L2.Vf
/-! xs.extend(t) of a tuple; del xs[a:]. -/
namespace L2.Vf
open PySem PySem.Spec PyProof.Rows PySem.AutoSeq1
theorem extend_tuple (l : Addr) (items : Array Value) (n : Nat) (b : Addr) (items2 : Array Value) (n2 : Nat) (dd : Option Addr) (sl : Array (Option Value)) (hs0 : ¬(!items.isEmpty && Builtin.List.listTooLong (items.size + items2.size)) = true) (hs1 : items.size ≤ sizeLine) (hs2 : items.size + items2.size ≤ sizeLine + 1) :
    Meets (Builtin.«list.extend» ⟨[.ref l, .ref b], []⟩) (fun _ R s => s.heap.get? l = some { cls := .type "list", dict := none, data := .seq items n, slots := #[] } ∧ s.heap.get? b = some { cls := .type "tuple", dict := dd, data := .seq items2 n2, slots := sl } ∧ R (.ok (.ret Value.none)) { s with heap := s.heap.update l (Obj.mapSeq fun x => x ++ items2), toks := s.toks }) :=
  .of_wp fun prog w A R s h => by
    obtain ⟨hp, g, d, tk, os⟩ := s; obtain ⟨hl, hb, h⟩ := h
    have hz' : (items ++ items2).size ≤ sizeLine + 1 := by rw [Array.size_append]; exact hs2
    wp_walk using (wpAny_updateSeq hl rfl (hz := hs1) (_hz' := hz')), wpAny_loadPart' hl, wpAny_loadPart' hb; exact ⟨_, rfl, h⟩
def rExtendT (K : PySem.W.Frag) : V → List V → Hp → VK → Prop := fun x vs H Q => ∃ l b xs zs, x = .ref l ∧ vs = [.ref b] ∧ H l = some (.lst xs) ∧ SqT K H b zs ∧ xs.length + zs.length ≤ sizeLine ∧ Q .non (upd H l (.lst (xs ++ zs)))
theorem mt_extendT {X : Cx} : MtM X "list.extend" (rExtendT X.K) := by
  intro pins s σ H x vs v us Q I rx rv h
  obtain ⟨l, b, xs, zs, rfl, rfl, hH, hB, hz, q⟩ := h
  cases rx
  obtain ⟨u, rfl, ru⟩ := rv.one
  cases ru
  obtain ⟨z, its, n, r, hl, e⟩ := I.lstM hH
  obtain ⟨its2, r2, ⟨o2, e2, hc2, n2, hd2⟩, z2⟩ := I.tuple hB
  have hl2 := r2.length
  obtain ⟨cls2, dd2, data2, sl2⟩ := o2
  cases (show cls2 = _ from hc2)
  cases (show data2 = _ from hd2)
  have hsz : its.toArray.size + its2.toArray.size ≤ sizeLine := by rw [List.size_toArray, List.size_toArray]; omega
  have hlong : ¬ (!its.toArray.isEmpty && Builtin.List.listTooLong (its.toArray.size + its2.toArray.size)) = true := by
    rw [notLongL hsz, Bool.and_false]
    exact Bool.false_ne_true
  refine call_meets F.slot_list_extend ⟨_, e, rfl⟩ F.entry_list_extend (F.args_list_extend_2 _ _)
    (extend_tuple l its.toArray n b its2.toArray n2 dd2 sl2 hlong (by rw [List.size_toArray]; omega) (by omega)) ⟨e, e2, ?_⟩
  refine ⟨.non, _, I.lset (its' := its ++ its2) hH e (by simp) (r.append r2) ?_, rfl, q⟩
  rw [List.length_append]
  omega
theorem mt_extendTK {X : Cx} {K : PySem.W.Frag} (hK : X.K = K := by rfl) : MtM X "list.extend" (rExtendT K) := by
  subst hK
  exact mt_extendT
/-! ### del xs[a:] -/
theorem keep_take (sel : Nat → Bool) (a : Nat) : ∀ (xs : List Value) (j : Nat), (∀ k, j ≤ k → k < j + xs.length → sel k = decide (a ≤ k)) → ((xs.zipIdx j).filterMap fun (p : Value × Nat) => if sel p.2 = true then none else some p.1) = xs.take (a - j)
  | [], j, _ => by simp
  | x :: xs, j, h => by
    rw [List.zipIdx_cons, List.filterMap_cons]
    have h0 := h j (Nat.le_refl _) (by rw [List.length_cons]; omega)
    have ih := keep_take sel a xs (j + 1) fun k h1 h2 => h k (by omega) (by rw [List.length_cons]; omega)
    by_cases q : a ≤ j
    · have z : sel j = true := by rw [h0]; exact decide_eq_true q
      have e1 : a - (j + 1) = 0 := by omega
      have e2 : a - j = 0 := by omega
      simp only [z, if_true]
      rw [ih, e1, e2, List.take_zero, List.take_zero]
    · have z : sel j = false := by rw [h0]; exact decide_eq_false q
      have e2 : a - j = (a - (j + 1)) + 1 := by omega
      simp only [z, Bool.false_eq_true, if_false]
      rw [ih, e2, List.take_succ_cons]
theorem bounds_from {a n : Nat} (h : a ≤ n) : sliceBounds (some (a : Int)) none none n = ((a : Int), (n : Int), 1) := by
  simp only [sliceBounds, Option.getD_none]
  have h1 : ¬ ((a : Int) < 0) := by omega
  simp only [h1, if_false, show (1 : Int) > 0 by decide, if_true]
  congr 1
  omega
section
variable {prog : Program} {w : World} {A : Around} {E : Value → Shared → Prop} {s : Shared}
theorem delItem_from {l sl : Addr} {items : Array Value} {n : Nat} {vl vu vs : Value} {a : Nat} {Q : Unit → Shared → Prop} (e : s.heap.get? l = some { cls := .type "list", data := .seq items n })
    (hs : s.heap.IsSliceOf sl vl vu vs) (pl : IsPart vl (some (a : Int))) (pu : IsPart vu none) (ps : IsPart vs none) (ha : a ≤ items.size) (hsz : items.size ≤ sizeLine)
    (h : ∀ f : Array Value → Array Value, f items = (items.toList.take a).toArray → Q () { s with heap := s.heap.update l (Obj.mapSeq f) }) :
    wpAny (model prog w) A (delItem (.ref l) (.ref sl)) Q E s := by
  have hl : s.heap.IsList l items := PySem.IsL.isList e
  obtain ⟨os, hos, hcs, hds⟩ := id hs
  have hTs : s.TypeIs (.ref sl) "slice" := ⟨os, hos, hcs⟩
  have hstep : ¬ ((rawPart none == rawInt 0) = true) := Bool.false_ne_true
  unfold delItem
  try with_reducible refine wpAny_holding ?_
  first | refine wpAny_bind (wpAny_pure ?_) | skip
  refine wpAny_bind (wpAny_sequenceKey hl.typeIs (by decide) ?_)
  refine wpAny_bind (wpAny_callSpecial?_slot (name := Str.ofString "__delitem__") hl.typeIs F.slot_list_delitem
    (wpAny_call_entry F.slot_list_delitem hl.typeIs F.entry_list_delitem ?_ (F.args_list_delitem_2 _ _)))
  show wpAny _ _ (Builtin.List.listSubscript? (.ref sl) >>= _) _ _ s
  refine wpAny_bind ?_
  unfold Builtin.List.listSubscript?
  refine wpAny_bind (wpAny_specialOf hTs slice_no_index ?_)
  simp only [Option.isNone_none, if_true]
  refine wpAny_pure ?_
  show wpAny _ _ (typeOf (.ref sl) >>= _) _ _ s
  refine wpAny_bind (wpAny_typeOf hTs ?_)
  first
    | rw [if_neg (by decide)]
    | refine PySem.W.KFB.if_not (by decide) ?_
  rw [listSliceParts_eq]
  refine wpAny_bind (wpAny_bind (wpAny_field hos hds (x := vs) rfl (wpAny_bind (wpAny_listPart ps ?_))))
  rw [if_neg hstep]
  refine wpAny_bind (wpAny_field hos hds (x := vl) rfl (wpAny_bind (wpAny_listPart pl ?_)))
  refine wpAny_bind (wpAny_field hos hds (x := vu) rfl (wpAny_bind (wpAny_listPart pu (wpAny_pure ?_))))
  refine wpAny_bind (m := Builtin.List.listItems (.ref l)) ?_
  unfold Builtin.List.listItems
  refine wpAny_bind (wpAny_seqItems e rfl (wpAny_pure ?_))
  refine wpAny_bind (wpAny_of_eq ((sliceIndices_raw (some (a : Int)) none none items.size (by simp)).trans (congrArg (pure : Int × Int × Int → Sem (Int × Int × Int)) (bounds_from ha))) ?_)
  refine wpAny_bind (wpAny_rule ?_)
  show wpAny _ _ (updateSeq l _ >>= _) _ _ s
  refine wpAny_bind (wpAny_updateSeq (hz := hsz) (_hz' := ?_) e rfl ?_)
  rotate_left
  · show (List.filterMap _ _).toArray.size ≤ sizeLine + 1
    rw [List.size_toArray]
    refine Nat.le_trans (List.length_filterMap_le _ _) ?_
    rw [List.length_zipIdx, Array.length_toList]
    omega
  refine wpAny_bind (wpAny_letGo ?_)
  refine wpAny_pure ⟨.none, rfl, wpAny_pure (h _ ?_)⟩
  refine congrArg List.toArray ((keep_take _ a items.toList 0 fun k _ hk => ?_).trans (by rw [Nat.sub_zero]))
  rw [Array.length_toList] at hk
  show (if (1 : Int) > 0 then (decide ((a : Int) ≤ (k : Int)) && decide ((k : Int) < (items.size : Int)) && (((k : Int) - (a : Int)) % 1 == 0)) else _) = _
  rw [if_pos (by decide), Int.emod_one]
  have h2 : decide ((k : Int) < (items.size : Int)) = true := decide_eq_true (by omega)
  rw [h2]
  simp
end
section
variable {X : Cx}
/-- del xs[a:] of a list -/
def tDelFrom (to ti : TE) : TS := fun D σ H => to σ H fun x H1 => ti σ H1 fun y H2 => ∃ i : Int, y = .int i ∧ ∃ (l : Addr) (xs : List V) (a : Nat), x = .ref l ∧ some i = some (a : Int) ∧ H2 l = some (.lst xs) ∧ a ≤ xs.length ∧ D.nx σ (upd H2 l (.lst (xs.take a)))
theorem ps_delFrom {o i : Expr} {to ti : TE} {tpos p2 pos : Pos} (ho : PE X o to) (hi : PE X i ti) : PS X (.Delete [.Subscript o (.Slice (some i) none none p2) tpos] pos) (tDelFrom to ti) := by
  refine ⟨fun pins s σ H D I h => ?_⟩
  refine wpAny_Delete (wpAny_deleteEach_cons (wpAny_delete_Subscript (thn (ho.run pins s σ H _ I h) fun u s1 ⟨x, H1, I1, rx, q1⟩ => ?_)))
  refine wpAny_Slice (thn ((po_some hi).run pins s1 σ H1 (fun oi H2 => ∃ (l : Addr) (xs : List V) (a : Nat), x = .ref l ∧ oi = some (a : Int) ∧ H2 l = some (.lst xs) ∧ a ≤ xs.length ∧ D.nx σ (upd H2 l (.lst (xs.take a)))) I1 ?_) fun vl s2 ⟨ol, H2, I2, pl, l, xs, a, ex, eo, hH, ha, q⟩ => ?_)
  · exact q1
  subst ex eo
  cases rx
  refine thn (po_none.run pins s2 σ H2 (fun o H3 => o = none ∧ H3 = H2) I2 ⟨rfl, rfl⟩) fun vu s3 ⟨u, H3, I3, pu, eu, e3⟩ => ?_
  subst eu e3
  refine thn (po_none.run pins s3 σ H3 (fun o H4 => o = none ∧ H4 = H3) I3 ⟨rfl, rfl⟩) fun vs s4 ⟨o4, H4, I4, ps, eo, e4⟩ => ?_
  subst eo e4
  have I5 : Inv X pins σ H4 { s4 with heap := s4.heap.push { cls := .type "slice", data := .fields #[vl, vu, vs] } } := I4.kept (t' := s4.toks) fun b ob q => Heap.get?_push_of_some _ q
  obtain ⟨z, its, n, r, hl, e⟩ := I5.lstM hH
  refine delItem_from e (Heap.IsSliceOf.new _ vl vu vs) pl pu ps (by rw [List.size_toArray]; omega) (by rw [List.size_toArray]; omega) fun f hf => wpAny_deleteEach_nil ⟨σ, _, ?_, q⟩
  refine I5.lset (its' := its.take a) (t' := s4.toks) hH e hf (r.take a) ?_
  rw [List.length_take]
  omega
end
end L2.Vf
/-! What stays where functions are made: as hide and But, the tables of code objects left out. -/
namespace L2.Vf.N
open PySem PySem.Spec PyProof.Rows
open Evl (Ex Ev EvT EvL EvA)
/-- the heap without what is written; tables of code objects are nobody's -/
def hide (S : List Addr) (H : Hp) : Hp := fun b => if b ∈ S then none else match H b with
  | some (.tbl _) => none
  | o => o
/-- all but S stays -/
def But (S : List Addr) (H H' : Hp) : Prop := Ex (hide S H) (hide S H')
section
variable {K : PySem.W.Frag} {w : World} {σ : St} {H H' H1 H2 : Hp} {S T : List Addr} {q : Addr} {ta : TA} {te : TE} {d : PyData} {ds : List PyData} {v : V}
theorem hide_off {o : HO} (n : q ∉ S) (e : H q = some o) (nt : ∀ ps, o ≠ .tbl ps := by intro _ z; cases z) : hide S H q = some o := by
  unfold hide
  rw [if_neg n, e]
  cases o <;> first | rfl | exact absurd rfl (nt _)
theorem hide_inv {o : HO} (h : hide S H q = some o) : q ∉ S ∧ H q = some o ∧ ∀ ps, o ≠ .tbl ps := by
  unfold hide at h
  by_cases z : q ∈ S
  · rw [if_pos z] at h
    cases h
  · rw [if_neg z] at h
    cases e : H q with
    | none =>
      rw [e] at h
      cases h
    | some u =>
      rw [e] at h
      cases u <;> cases h <;> exact ⟨z, rfl, fun ps y => by cases y⟩
theorem hide_ex0 {o : HO} (h : L2.Vf.hide S H q = some o) : H q = some o := L2.Vf.hide_ex _ _ h
theorem hide_ex : Ex (hide S H) H := fun b o h => (hide_inv h).2.1
theorem But.refl : But S H H := Ex.refl _
theorem But.trans (a : But S H H1) (b : But S H1 H2) : But S H H2 := Ex.trans a b
theorem But.of (e : Ex H H') : But S H H' := fun b o h => by
  obtain ⟨h1, h2, h3⟩ := hide_inv h
  exact hide_off h1 (e b o h2) h3
theorem But.get (e : But S H H') {b : Addr} {o : HO} (n : b ∉ S) (h : H b = some o) (nt : ∀ ps, o ≠ .tbl ps := by intro _ z; cases z) : H' b = some o :=
  (hide_inv (e b o (hide_off n h nt))).2.1
theorem But.byN (h : ∀ b o, b ∉ S → (∀ ps, o ≠ .tbl ps) → H b = some o → H' b = some o) : But S H H' := fun b o hb => by
  obtain ⟨h1, h2, h3⟩ := hide_inv hb
  exact hide_off h1 (h b o h1 h3 h2) h3
theorem But.by (h : ∀ b o, b ∉ S → H b = some o → H' b = some o) : But S H H' := But.byN fun b o n _ e => h b o n e
theorem But.more (h : ∀ b ∈ S, b ∈ T) (e : But S H H') : But T H H' := But.byN fun b o n nt hb => e.get (fun z => n (h b z)) hb nt
theorem But.mut {o : HO} (e : But S H H') (n : H q = none) : But S H (upd H' q o) := But.byN fun b o' hb nt h => by
  rw [upd_ne (ne_of_none h n)]
  exact e.get hb h nt
theorem hide_new {o : HO} (k : Kn S H) (n : H q = none) (nt : ∀ ps, o ≠ .tbl ps := by intro _ z; cases z) : hide S (upd H q o) q = some o := hide_off (k.off n) upd_same nt
/-! ### from the one to the other -/
theorem But.extN (e : LamX.ExtN H H') : But S H H' := But.byN fun b o _ nt h => e b o h nt
theorem But.from (e : L2.Vf.But S H H') : But S H H' := But.byN fun b o n _ h => L2.Vf.But.get e n h
theorem sqt_to {a : Addr} {xs : List V} (h : SqT K (L2.Vf.hide S H) a xs) : SqT K (hide S H) a xs := by
  rcases h with (h | ⟨o, h⟩) | h
  · refine .inl (.inl (hide_off (fun z => ?_) (hide_ex0 h)))
    rw [L2.Vf.hide, if_pos z] at h
    cases h
  · refine .inl (.inr ⟨o, hide_off (fun z => ?_) (hide_ex0 h)⟩)
    rw [L2.Vf.hide, if_pos z] at h
    cases h
  · exact .inr h
theorem sqt_from {a : Addr} {xs : List V} (h : SqT K (hide S H) a xs) : SqT K (L2.Vf.hide S H) a xs := by
  rcases h with (h | ⟨o, h⟩) | h
  · obtain ⟨h1, h2, _⟩ := hide_inv h
    exact .inl (.inl (by rw [L2.Vf.hide_off h1]; exact h2))
  · obtain ⟨h1, h2, _⟩ := hide_inv h
    exact .inl (.inr ⟨o, by rw [L2.Vf.hide_off h1]; exact h2⟩)
  · exact .inr h
theorem tm_to {t : Tm} (h : TmV K (L2.Vf.hide S H) t v) : TmV K (hide S H) t v := TmV.to sqt_to t v h
theorem tm_from {t : Tm} (h : TmV K (hide S H) t v) : TmV K (L2.Vf.hide S H) t v := TmV.to sqt_from t v h
/-- where all but S stays, the tables outside S do -/
theorem tabs_but {Ts : List (Addr × Str)} (e : L2.Vf.But S H H') (h : LamX.Tabs Ts H) (n : ∀ p ∈ Ts, p.1 ∉ S) (nc : ∀ c x, H c = some (LamX.CodeO c x) → c ∉ S) : LamX.Tabs Ts H' := fun p hp => by
  obtain ⟨ps, h1, h2, h3⟩ := h p hp
  refine ⟨ps, L2.Vf.But.get e (n p hp) h1, h2, fun pos cv hc => ?_⟩
  obtain ⟨c, e1, e2⟩ := h3 pos cv hc
  exact ⟨c, e1, L2.Vf.But.get e (nc c _ e2) e2⟩
end
end L2.Vf.N
/-! The law's own state: what stays while functions are made; comparisons of deep data; a dict's item as a target. -/
namespace L2.Vf
open PySem PySem.Spec PyProof.Rows
open Evl (Ex Ev EvT EvL EvA)
section
variable {K : PySem.W.Frag} {w : World} {H H' H1 H2 : Hp} {S : List Addr} {p c d : Addr} {t : Tm} {ts : List Tm} {k : NestedKey} {ks : List NestedKey} {v : V} {vs : List V} {tb : Tb} {mv : List Mv}
theorem rd_to {a : Addr} {u : HO} (nt : ∀ ps, u ≠ .tbl ps) (h : Rd (L2.Vf.hide S H) a u) : Rd (N.hide S H) a u := by
  rcases h with h | ⟨o, h⟩
  · refine .inl (N.hide_off (fun z => ?_) (N.hide_ex0 h) nt)
    rw [L2.Vf.hide, if_pos z] at h
    cases h
  · refine .inr ⟨o, N.hide_off (fun z => ?_) (N.hide_ex0 h)⟩
    rw [L2.Vf.hide, if_pos z] at h
    cases h
theorem rd_from {a : Addr} {u : HO} (h : Rd (N.hide S H) a u) : Rd (L2.Vf.hide S H) a u := by
  rcases h with h | ⟨o, h⟩
  · obtain ⟨h1, h2, _⟩ := N.hide_inv h
    exact .inl (by rw [L2.Vf.hide_off h1]; exact h2)
  · obtain ⟨h1, h2, _⟩ := N.hide_inv h
    exact .inr ⟨o, by rw [L2.Vf.hide_off h1]; exact h2⟩
theorem rd_N (e : N.But S H H') {a : Addr} {u : HO} (nt : ∀ ps, u ≠ .tbl ps) (h : Rd (hide S H) a u) : Rd (hide S H') a u := rd_from (Evl.ex_rd e (rd_to nt h))
theorem sqt_N (e : N.But S H H') {a : Addr} {xs : List V} (h : SqT K (hide S H) a xs) : SqT K (hide S H') a xs := by
  rcases h with h | h
  · exact .inl (rd_N e (by intro _ z; cases z) h)
  · exact .inr h
theorem sql_N (e : N.But S H H') {a : Addr} {xs : List V} (h : SqL K (hide S H) a xs) : SqL K (hide S H') a xs := by
  rcases h with h | h
  · exact .inl (rd_N e (by intro _ z; cases z) h)
  · exact .inr h
theorem TmV.N (e : N.But S H H') (h : TmV K (hide S H) t v) : TmV K (hide S H') t v := TmV.to (sqt_N e) t v h
theorem KeyV.N (e : N.But S H H') (h : KeyV K (hide S H) k v) : KeyV K (hide S H') k v := KeyV.to (sqt_N e) k v h
theorem kl.N (e : N.But S H H') (h : kl K S ks v H) : kl K S ks v H' := by
  obtain ⟨a, vs, rfl, h1, h2⟩ := h
  exact ⟨a, vs, rfl, sql_N e h1, KeyVs.to (sqt_N e) _ _ h2⟩
theorem mxo_nt {d : Addr} {w : World} {mv : List Mv} : ∀ ps, mxo d w mv ≠ .tbl ps := by
  intro _ z
  cases z
theorem Mx.N (e : N.But S H H') (m : Mx K (hide S H) w d mv) : Mx K (hide S H') w d mv :=
  ⟨rd_N e mxo_nt m.obj, fun p hp => ⟨(m.key p hp).1.N e, (m.key p hp).2⟩, m.one, m.len, m.sys⟩
theorem TbR.N (e : N.But S H H') (h : TbR K (hide S H) mv tb) : TbR K (hide S H') mv tb := tbR_mono (sqt_N e) h
theorem bq.N (e : N.But S H H') (h : bq K w S tb v H) : bq K w S tb v H' := by
  obtain ⟨d, ks, rfl, h1, h2⟩ := h
  exact ⟨d, ks, rfl, h1.N e, TbR.N e h2⟩
theorem TabAt.N (e : N.But S H H') (h : TabAt K w S H d tb) : TabAt K w S H' d tb := by
  obtain ⟨mv, h1, h2, h3, h4⟩ := h
  exact ⟨mv, e.get h2 h1 mxo_nt, h2, h3.N e, TbR.N e h4⟩
/-- the source stands while tables of code objects grow -/
theorem Src.extN (h : Src H p c) (e : LamX.ExtN H H') : Src H' p c := by
  obtain ⟨cells, l, m, t, h1, h2⟩ := h
  exact ⟨cells, l, m, t, e _ _ h1 (by intro _ z; cases z), e _ _ h2 (by intro _ z; cases z)⟩
/-- what is read here stands away from the source, too -/
theorem Src.sq (h : Src H p c) {a : Addr} {xs : List V} (g : SqT K H a xs) : SqT K (hide [p, c] H) a xs := by
  obtain ⟨cells, l, m, t, h1, h2⟩ := h
  rcases g with (g | ⟨o, g⟩) | g
  · refine .inl (.inl ?_)
    rw [hide_off]
    · exact g
    · intro z
      simp only [List.mem_cons, List.not_mem_nil, or_false] at z
      rcases z with rfl | rfl
      · rw [h1] at g
        cases g
      · rw [h2] at g
        cases g
  · refine .inl (.inr ⟨o, ?_⟩)
    rw [hide_off]
    · exact g
    · intro z
      simp only [List.mem_cons, List.not_mem_nil, or_false] at z
      rcases z with rfl | rfl
      · rw [h1] at g
        cases g
      · rw [h2] at g
        cases g
  · exact .inr g
theorem Src.tm (h : Src H p c) (g : TmV K H t v) : TmV K (hide [p, c] H) t v := TmV.to h.sq t v g
/-- draws leave the tables of code objects -/
theorem Src.tabs {T : List (Addr × Str)} (h : Src H p c) (b : But [p, c] H H') (T0 : LamX.Tabs T H) : LamX.Tabs T H' := by
  obtain ⟨cells, l, m, t, h1, h2⟩ := h
  refine N.tabs_but b T0 (fun q hq z => ?_) fun c' x e z => ?_
  · obtain ⟨ps, e, _⟩ := T0 q hq
    simp only [List.mem_cons, List.not_mem_nil, or_false] at z
    rcases z with z | z
    · rw [z, h1] at e
      cases e
    · rw [z, h2] at e
      cases e
  · simp only [List.mem_cons, List.not_mem_nil, or_false] at z
    rcases z with rfl | rfl
    · rw [h1] at e
      cases e
    · rw [h2] at e
      cases e
/-- a dict that was locked, free again -/
theorem unlock_ex {x u : HO} (e : Ex (upd H d x) H') (h : H d = some u) : Ex H (upd H' d u) := fun b o hb => by
  by_cases z : b = d
  · rw [z] at hb ⊢
    rw [upd_same, ← h, hb]
  · rw [upd_ne z]
    exact e b o (by rw [upd_ne z]; exact hb)
/-! ### tables joined -/
def tMerge (acc tb : Tb) : Tb := tb.foldl (fun acc r => tPut acc r.1 r.2) acc
theorem tMerge_app : ∀ (tb acc : Tb), ((acc ++ tb).map (·.1)).Nodup → tMerge acc tb = acc ++ tb
  | [], acc, _ => by
    show acc = acc ++ []
    rw [List.append_nil]
  | r :: tb, acc, n => by
    show tMerge (tPut acc r.1 r.2) tb = _
    have e : tPut acc r.1 r.2 = acc ++ [r] := by
      unfold tPut
      have z : tLook acc r.1 = none := tLook_none.mpr fun q => by
        rw [List.map_append, List.nodup_append] at n
        exact n.2.2 _ q r.1 (by simp) rfl
      rw [z, if_neg (by simp)]
    rw [e, tMerge_app tb (acc ++ [r]) (by rw [List.append_assoc]; exact n), List.append_assoc]
    rfl
theorem tbR_merge : ∀ {mv : List Mv} {tb : Tb} {acc : List Mv} {ta : Tb}, TbR K H mv tb → TbR K H acc ta → TbR K H (mergeM acc mv) (tMerge ta tb)
  | _, _, acc, ta, .nil, h => h
  | _, _, acc, ta, .cons (a := r) (b := q) hr h2, h => by
    show TbR K H (mergeM (pM acc r.1 r.2.1 r.2.2) _) (tMerge (tPut ta q.1 q.2) _)
    obtain ⟨e, ht⟩ := hr
    refine tbR_merge h2 ?_
    rw [e]
    exact tbR_put h q.1 ht
theorem tbR_keys : ∀ {mv : List Mv} {tb : Tb}, TbR K H mv tb → mv.map (·.1) = tb.map (·.1)
  | _, _, .nil => rfl
  | _, _, .cons hr h => by rw [List.map_cons, List.map_cons, hr.1, tbR_keys h]
/-! ### terms and tables as data -/
theorem drAll_strs {xs : List Str} : DpAll K H (xs.map V.str) (xs.map PyData.str) := by
  induction xs with
  | nil => exact .nil
  | cons x xs ih => exact .cons (.str x) ih
def tbD (tb : Tb) : PyData := .dict (tb.map fun r => (r.1.data, r.2.data))
theorem tbR_dr : ∀ {mv : List Mv} {tb : Tb}, (∀ r ∈ mv, KeyV K H r.1 r.2.1) → TbR K H mv tb → DrKv K w H mv (tb.map fun r => (r.1.data, r.2.data))
  | _, _, _, .nil => .nil
  | _, _, hk, .cons (b := q) hr h => by
    have z := hk _ List.mem_cons_self
    rw [hr.1] at z
    exact .cons (KeyV.dr _ _ z) (TmV.dr _ _ hr.2) (tbR_dr (fun r hr => hk r (List.mem_cons_of_mem _ hr)) h)
theorem tab_dr (m : Mx K H w d mv) (h : TbR K H mv tb) : Dr K w H (.ref d) (tbD tb) := .dct m (tbR_dr (fun r hr => (m.key r hr).1) h)
end
/-! ### y not in d -/
section
variable {X : Cx} {pins : List (Addr × Obj)} {σ : St} {H : Hp} {s : Shared} {d : Addr} {ks : List Mv} {k : NestedKey} {y v : V} {u r : Value} {A : Around} {E : Value → Shared → Prop}
/-- y not in d -/
theorem m_notIn {Q : Value → Shared → Prop} (hu : A.units + 40 < cLine) (I : Inv X pins σ H s) (m : Mx X.K H X.w d ks) (hk : KeyV X.K H k y) (dk : k.depth ≤ 8) (ry : RelV y u)
    (h : ∀ s', Inv X pins σ H s' → Q (.bool (!(vM ks k).isSome)) s') : wpAny (model X.prog X.w) A (compareOp .NotIn u (.ref d)) Q E s := by
  obtain ⟨xs, M, hp⟩ := m.at_ I
  have same := (rows_find hp k).isSome_eq
  show wpAny _ _ (do return .bool (!(← contains (.ref d) u))) Q E s
  refine wpAny_bind ?_
  unfold contains
  try with_reducible refine wpAny_holding ?_
  refine wpAny_bind (wpAny_specialOf M.typeIs slot_dict_contains.lookup ?_)
  show wpAny _ _ (if (some (Value.builtin "dict.__contains__") == some Value.none) = true then _ else _) _ E s
  rw [if_neg (by rw [beq_builtin_none]; exact Bool.false_ne_true)]
  refine wpAny_bind (wpAny_callSpecialUnlessNone?_slot (name := Str.ofString "__contains__") M.typeIs slot_dict_contains
    (wpAny_call_entry slot_dict_contains M.typeIs entry_dict_contains ?_ (args_dict_contains _ _)))
  show wpAny _ _ (dictGet d u >>= _) _ _ s
  refine wpAny_bind (get_mix (by show A.units + 1 + 16 < _; omega) (KeyV.is I _ _ _ hk ry) dk M ?_)
  cases hf : mGet xs k with
  | some r =>
    rw [hf] at same
    have z := h { s with toks := s.toks + k.draws } (I.tok _)
    rw [same] at z
    exact wpAny_pure ⟨_, rfl, wpAny_truthy_bool (wpAny_pure z)⟩
  | none =>
    rw [hf] at same
    have z := h { s with toks := s.toks + k.draws } (I.tok _)
    rw [same] at z
    show wpAny _ _ (Builtin.Dict.pendingKey? d u >>= _) _ _ _
    exact wpAny_bind (wpAny_pendingKey_other m.sys (wpAny_pure ⟨_, rfl, wpAny_truthy_bool (wpAny_pure z)⟩))
end
/-! ### deep data compared -/
section
variable {X : Cx}
def rEqDN (K : PySem.W.Frag) (n : Nat) : R2 := fun x y H Q => ∃ d e, Dp K H x d ∧ Dp K H y e ∧ d.canLay0 = true ∧ e.canLay0 = true ∧ d.depth ≤ n ∧ Q (.bl (PyData.eqv d e)) H
theorem op_eqDN {K : PySem.W.Frag} {n : Nat} (hu : X.A.units + n < cLine) (hK : X.K = K := by rfl) : OpR X (compareOp .Eq) (rEqDN K n) := by
  subst hK
  intro pins s σ H x y v u Q I rx ry h
  obtain ⟨d, e, hd, he, sd, se, dd, q⟩ := h
  obtain ⟨as, r1⟩ := Dp.reads I d x v hd rx
  obtain ⟨bs, r2⟩ := Dp.reads I e y u he ry
  exact SeqAt.compareEq_reads r1 r2 sd se (by have := Nat.min_le_left d.depth e.depth; omega) ⟨.bl _, H, I, rfl, q⟩
def rSetM (K : PySem.W.Frag) (w : World) : TSet := fun o i v H Q => ∃ (d : Addr) (ks : List Mv) (k : NestedKey), o = .ref d ∧ Mx K H w d ks ∧ H d = some (mxo d w ks) ∧ KeyV K H k i ∧ k.depth ≤ 8 ∧ ks.length < 1000 ∧ Q (upd H d (mxo d w (pM ks k i v)))
theorem call_isiK0 {K : PySem.W.Frag} (hK : X.K = K := by rfl) : CallR X (.builtin "isinstance") (rIsi K) := by
  subst hK
  exact call_isi
theorem set_mixS {K : PySem.W.Frag} {w : World} (hu : X.A.units + 40 < cLine) (hK : X.K = K := by rfl) (hw : X.w = w := by rfl) : PSet X (rSetM K w) := by
  subst hK hw
  intro pins s σ H o i v ov iv u Q I ro ri rv h
  obtain ⟨d, ks, k, rfl, m, ow, hk, dk, hl, q⟩ := h
  obtain rfl : ov = Value.ref d := ro
  exact m_setItem hu I m ow hk dk ri rv hl fun s4 I4 => ⟨_, I4, q⟩
theorem op_notInM {K : PySem.W.Frag} {w : World} (hu : X.A.units + 40 < cLine) (hK : X.K = K := by rfl) (hw : X.w = w := by rfl) :
    OpR X (compareOp .NotIn) (fun y x H Q => ∃ (d : Addr) (ks : List Mv) (k : NestedKey), x = .ref d ∧ Mx K H w d ks ∧ KeyV K H k y ∧ k.depth ≤ 8 ∧ Q (.bl (!(vM ks k).isSome)) H) := by
  subst hK hw
  intro pins s σ H x y v u Q I rx ry h
  obtain ⟨d, ks, k, rfl, m, hk, dk, q⟩ := h
  obtain rfl := ry
  exact m_notIn hu I m hk dk rx fun s' I' => ⟨.bl _, H, I', rfl, q⟩
theorem units60 {k : Nat} {A : Around} (r : Room k A) : A.units + 60 < cLine := by have := r.un; omega
theorem units150 {k : Nat} {A : Around} (r : Room k A) : A.units + 150 < cLine := by have := r.un; omega
theorem units190 {k : Nat} {A : Around} (r : Room k A) : A.units + 190 < cLine := by have := r.un; omega
/-- a tuple is one -/
theorem tup_ty {K : PySem.W.Frag} {H : Hp} {a : Addr} {xs : List V} (h : SqT K H a xs) : TyX K H (.ref a) (.type "tuple") := by
  rcases h with (h | ⟨o, h⟩) | ⟨o, its, n, h1, h2, _⟩
  · exact .base (.tup h)
  · exact .fTuple h
  · exact .kTuple h1 h2
end
end L2.Vf
/-! The law's end where functions are made on the way, and a repr is asked: a promise where nothing is guarded, with tables of code objects. -/
namespace L2.Vf
open PySem PySem.Spec PyProof.Rows LamX
/-- an empty table of code objects -/
abbrev emptyT : Obj := { cls := .none, data := .fields #[] }
section
variable {P : Program} {w : World} {K : PySem.W.Frag} {mg mb : Str → Option Value} {k : Nat} {fa a : Addr} {cs : List (Addr × Addr)} {fd : FuncData} {x : Str} {sp : Sp} {s : Shared} {vs : List Value} {ns : List Int}
/-- what is tracked at first: the tables, and the script unless it stands in the written part -/
def first (K : PySem.W.Frag) (cs : List (Addr × Addr)) (a : Addr) (ob : Obj) (ns : List Int) : Hp := fun b =>
  if b ∈ cs.map (·.2) then some (.tbl #[]) else if b = a ∧ (K.lookup a).isSome = false then some (.frz ob (.lst (ns.map V.int))) else none
theorem first_cases {ob : Obj} {b : Addr} {u : HO} (h : first K cs a ob ns b = some u) : (b ∈ cs.map (·.2) ∧ u = .tbl #[]) ∨ (b = a ∧ (K.lookup a).isSome = false ∧ u = .frz ob (.lst (ns.map V.int))) := by
  unfold first at h
  by_cases z : b ∈ cs.map (·.2)
  · rw [if_pos z] at h
    exact .inl ⟨z, (Option.some.inj h).symm⟩
  · rw [if_neg z] at h
    by_cases y : b = a ∧ (K.lookup a).isSome = false
    · rw [if_pos y] at h
      exact .inr ⟨y.1, y.2, (Option.some.inj h).symm⟩
    · rw [if_neg y] at h
      cases h
theorem law_callGT (inK : K.In s.heap) (hns : s.heap.Ns mainGlobals mg) (hb : s.heap.Ns builtinsNs mb) (hbb : ∀ x : Str, x ≠ "__name__" → mb x = bootBuiltins x) (hlim : s.heap.NoLimit) (hg : s.gens = #[])
    (empty : ∀ p ∈ cs, s.heap.get? p.2 = some emptyT) (offK : ∀ p ∈ cs, K.lookup p.2 = none) (heads : ∀ p ∈ cs, PySem.W.CodeHd s.heap p.1 p.2)
    (hbm : ∃ (bm : Addr) (ob : Obj), mg "__builtins__" = some (.ref bm) ∧ bm ≠ builtinsNs ∧ s.heap.get? bm = some ob ∧ ob.cls = .type "module" ∧ ob.dict = some builtinsNs ∧ ob.data = .plain)
    (ha : s.heap.get? a = some { cls := .type "list", data := .seq vs.toArray }) (hi : IntsAre vs ns) (hl : ns.length ≤ sizeLine) (hr : Room k callerA)
    (F : ∀ base : Heap, K.In base → base.Ns mainGlobals mg → (∀ p ∈ cs, TabB base mg p.1 p.2) → FnG P w K mg base CX0 k fa fd [x] sp) (hbind : ∀ (s : Shared) (u : Value), BindsTo s fd ⟨[u], []⟩ [(x, u)])
    (hsp : ∀ H : Hp, (∀ p ∈ cs, H p.2 = some (.tbl #[])) → SqL K H a (ns.map V.int) → sp [.ref a] H (fun v _ => v = .bl true) fun _ _ _ => False) :
    codeAny (model P w) callerA (.call (.ref fa) ⟨[.ref a], []⟩) (fun r s' => r = .ok (.ret (.bool true)) ∧ OldK s.heap s'.heap ∧ s'.os = s.os ∧ AllBare s'.gens) s := by
  have rv := vals_ints hi
  have lenV := hi.length
  have isT : ∀ {b : Addr}, b ∈ cs.map (·.2) → s.heap.get? b = some emptyT := fun hb => by
    obtain ⟨p, hp, e⟩ := List.mem_map.mp hb
    rw [← e]
    exact empty p hp
  have aT : a ∉ cs.map (·.2) := fun z => by
    have y := isT z
    rw [ha] at y
    have y' : Data.seq vs.toArray _ = Data.fields #[] := congrArg Obj.data (Option.some.inj y)
    cases y'
  generalize hob : ({ cls := .type "list", data := .seq vs.toArray } : Obj) = ob at ha
  have tabs : ∀ p ∈ cs, first K cs a ob ns p.2 = some (.tbl #[]) := fun p hp => if_pos (List.mem_map.mpr ⟨p, hp, rfl⟩)
  have atA : (K.lookup a).isSome = false → first K cs a ob ns a = some (.frz ob (.lst (ns.map V.int))) := fun z => (if_neg aT).trans (if_pos ⟨rfl, z⟩)
  have ok : HOk P w (first K cs a ob ns) s.heap := fun b u z => by
    rcases first_cases z with ⟨z1, rfl⟩ | ⟨rfl, _, rfl⟩
    · exact isT z1
    · exact ⟨ha, by rw [List.length_map]; exact hl, vs, _, rv, by rw [ha, ← hob]⟩
  have seq : SqL K (first K cs a ob ns) a (ns.map V.int) := by
    cases z : K.lookup a with
    | none => exact .inl (.inr ⟨ob, atA (by rw [z]; rfl)⟩)
    | some o =>
      have y := inK a o z
      rw [ha, ← hob] at y
      cases y
      exact .inr ⟨_, vs.toArray, _, z, rfl, rfl, rfl, by rw [List.size_toArray, lenV]; exact hl, by simpa using rv⟩
  -- what is neither a sequence nor such a table is not tracked
  have away : ∀ {b : Addr} {o : Obj}, s.heap.get? b = some o → (∀ vs n, o.data ≠ .seq vs n) → o.data ≠ .fields #[] → first K cs a ob ns b = none := fun {b o} e h1 h2 => by
    cases z : first K cs a ob ns b with
    | none => rfl
    | some u =>
      rcases first_cases z with ⟨z1, _⟩ | ⟨rfl, _, _⟩
      · rw [isT z1] at e
        cases e
        exact (h2 rfl).elim
      · rw [ha, ← hob] at e
        cases e
        exact (h1 _ _ rfl).elim
  have stays : ∀ {b : Addr} {o : Obj}, s.heap.get? b = some o → (∀ vs n, o.data ≠ .seq vs n) → o.data ≠ .fields #[] → (hidT s.heap (first K cs a ob ns)).get? b = some o := fun e h1 h2 => hidT_get e (away e h1 h2)
  have nsT : ∀ {b : Addr} {m : Str → Option Value}, s.heap.Ns b m → (hidT s.heap (first K cs a ob ns)).Ns b m := by
    rintro b m ⟨o, es, ep, z, d, r⟩
    exact ⟨o, es, ep, stays z (fun vs n y => by rw [d] at y; cases y) (fun y => by rw [d] at y; cases y), d, r⟩
  have kT : K.In (hidT s.heap (first K cs a ob ns)) := fun b o z => hidT_get (inK b o z) (by
    cases y : first K cs a ob ns b with
    | none => rfl
    | some u =>
      rcases first_cases y with ⟨y1, _⟩ | ⟨rfl, y2, _⟩
      · obtain ⟨p, hp, e⟩ := List.mem_map.mp y1
        rw [← e, offK p hp] at z
        cases z
      · rw [z] at y2
        cases y2)
  have mod : Mod K mg (hidT s.heap (first K cs a ob ns)) := by
    obtain ⟨mc, h1, h2⟩ := hlim
    exact ⟨kT, nsT hns, ⟨mb, nsT hb, hbb⟩, ⟨mc, nsT h1, h2⟩⟩
  have TB : ∀ p ∈ cs, TabB (hidT s.heap (first K cs a ob ns)) mg p.1 p.2 := fun p hp => by
    have e := empty p hp
    refine ⟨?_, ?_, fun z => ?_⟩
    · obtain ⟨o, us, file, tf, flags, tg, inF, text, tt, e1, r1, r2, rest⟩ := heads p hp
      refine ⟨o, us, file, tf, flags, tg, inF, text, tt, stays e1 (fun vs n z => ?_) (fun z => ?_), r1, r2, rest⟩
      · rw [r2] at z
        cases z
      · rw [r2] at z
        cases z
        have r3 := rest.1
        simp at r3
    · obtain ⟨bm, ob2, b1, b2, b3, b4, b5, b6⟩ := hbm
      refine ⟨bm, ob2, b1, b2, fun z => ?_, fun z => ?_, stays b3 (fun vs n z => ?_) (fun z => ?_), b4, b5, b6⟩
      · obtain ⟨o, es, ep, g, d, _⟩ := hns
        rw [z, g] at b3
        cases b3
        rw [d] at b6
        cases b6
      · rw [z, e] at b3
        cases b3
        cases b6
      · rw [b6] at z
        cases z
      · rw [b6] at z
        cases z
    · obtain ⟨o, es, ep, g, d, _⟩ := hns
      rw [z, e] at g
      cases g
      cases d
  have env : Env0 P w K mg (hidT s.heap (first K cs a ob ns)) callerA [] s (first K cs a ob ns) :=
    ⟨rfl, mod, fun b o z => of_hidT z, Nat.le_of_eq (hidT_size _ _), trivial, (fun b z => by cases z), ok, .of_eq hg⟩
  refine codeAny_mono ((F _ kT (nsT hns) TB).run callerA [] s (first K cs a ob ns) ⟨[.ref a], []⟩ [.ref a] [.ref a] _ _ rfl hr env (hbind s (.ref a)) (.cons rfl .nil) (hsp _ tabs seq)) fun r s' h => ?_
  cases r with
  | error e => exact False.elim h
  | ok fl =>
    cases fl with
    | next => exact False.elim h
    | brk => exact False.elim h
    | cont => exact False.elim h
    | ret u =>
      obtain ⟨v, H', os, bare, un, ok', r', q⟩ := h
      obtain rfl : v = .bl true := q
      obtain rfl : u = Value.bool true := r'
      have kept : ∀ b o, b ∉ cs.map (·.2) → s.heap.get? b = some o → s'.heap.get? b = some o := fun b o nb e => by
        cases z : first K cs a ob ns b with
        | none => exact un.keep b o e z (by intro y; cases y) (by simp)
        | some u =>
          rcases first_cases z with ⟨z1, _⟩ | ⟨rfl, _, rfl⟩
          · exact absurd z1 nb
          · obtain ⟨g1, _⟩ := ok b _ z
            obtain ⟨g2, _⟩ := ok' b _ (un.frzs b ob _ z)
            rw [e] at g1
            cases g1
            exact g2
      have grown : ∀ p ∈ cs, ∃ more : Array Value, s'.heap.get? p.2 = some { cls := .none, data := .fields more } := fun p hp => by
        obtain ⟨more, z⟩ := un.tbls p.2 #[] (tabs p hp)
        exact ⟨_, ok' p.2 _ z⟩
      refine ⟨rfl, ⟨fun b o e => ?_, fun b o e => ?_⟩, os, bare⟩
      · by_cases z : b ∈ cs.map (·.2)
        · obtain ⟨p, hp, rfl⟩ := List.mem_map.mp z
          obtain ⟨more, hm⟩ := grown p hp
          rw [empty p hp] at e
          cases e
          exact .inr (.inl ⟨((heads p hp).tab (empty p hp)).isCodeTable, rfl, #[], more, rfl, by rw [Array.empty_append]; exact hm⟩)
        · exact .inl (kept b o z e)
      · by_cases z : b ∈ cs.map (·.2)
        · obtain ⟨p, hp, rfl⟩ := List.mem_map.mp z
          obtain ⟨more, hm⟩ := grown p hp
          exact ⟨_, hm⟩
        · exact ⟨o, kept b o z e⟩
end
/-- the law's end, by a promise that holds where nothing is guarded, with the tables of these defs -/
theorem walk_ofGT {l : PySem.W.OpenLaw} {n k : Nat} {q : Program} {loose : List Str} {XP : (Str → Option Value) → Heap → Prop} {YP : World → Heap → Prop} {d : DefRec} {K : Params → PySem.W.Frag} {x : Str} {names : List Str}
    (hn : l.most = some n) (hn2 : n ≤ sizeLine) (hdf : d.params.defaults = []) (hr : Room k callerA) (hY : ∀ (w : World) (h : Heap), YP w h → (K w.params).In h)
    (hrec : ∀ y ∈ names, ∃ dr, (recsOf q).find? (fun e => e.name == y) = some dr)
    (F : ∀ (w : World) (mg : Str → Option Value) (fa : Addr) (h : Heap), (K w.params).In h → h.Ns mainGlobals mg → mg d.name = some (.ref fa) →
      ∃ (fd : FuncData) (cs : List (Addr × Addr)) (sp : Sp), (∀ p ∈ cs, ∃ y ∈ names, PySem.W.tabIn (K w.params) y = some p) ∧ (∀ p ∈ cs, (K w.params).lookup p.2 = none) ∧ (∀ (s : Shared) (u : Value), BindsTo s fd ⟨[u], []⟩ [(x, u)]) ∧
        (∀ (H : Hp) (a : Addr) (ns : List Int), ns.length ≤ n → (∀ p ∈ cs, H p.2 = some (.tbl #[])) → SqL (K w.params) H a (ns.map V.int) → sp [.ref a] H (fun v _ => v = .bl true) fun _ _ _ => False) ∧
        ∀ base : Heap, (K w.params).In base → base.Ns mainGlobals mg → (∀ p ∈ cs, TabB base mg p.1 p.2) → FnG l.prog w (K w.params) mg base CX0 k fa fd [x] sp) :
    PySem.W.WalkO q loose XP YP l.row.toRowW d [] (fun f vs => PySem.call f vs) := by
  refine Att.attach_call hn hdf fun w s₀ s₁ mg mb fa o pm cd doc a vs ns G Y ho hd hcd hmg hobj hints hlen hg => ?_
  have inK := hY w _ Y
  obtain ⟨fd, cs, sp, hcs, offK, hb, hsp, hF⟩ := F w mg fa _ inK G.T.g hmg
  have both : ∀ p ∈ cs, PySem.W.CodeHd s₁.heap p.1 p.2 ∧ s₁.heap.get? p.2 = some emptyT := fun p hp => by
    obtain ⟨y, hy, ht⟩ := hcs p hp
    obtain ⟨dr, hdr⟩ := hrec y hy
    exact PySem.W.tab_of G.T inK hdr ht
  exact law_callGT inK G.T.g G.T.b G.T.builtins G.T.nolimit hg (fun p hp => (both p hp).2) offK (fun p hp => (both p hp).1) G.T.bmain hobj hints (Nat.le_trans hlen hn2) hr hF hb fun H hH hS => hsp H a ns hlen hH hS
end L2.Vf
/-! {k: v for .. in .. if ..} with keys that are mixed. -/
namespace L2.Vf
open PySem PySem.Spec PyProof.Rows
section
variable {X : Cx}
/-- a pair is put into the dict that is being made -/
theorem m_put {pins : List (Addr × Obj)} {σ : St} {H : Hp} {s : Shared} {E : Value → Shared → Prop} {D : Addr} {ks : List Mv} {k : NestedKey} {y v : V} {u r : Value} {Q : Unit → Shared → Prop} (hu : X.A.units + 40 < cLine) (I : Inv X pins σ H s) (m : Mx X.K H X.w D ks) (ow : H D = some (mxo D X.w ks)) (hk : KeyV X.K H k y) (dk : k.depth ≤ 8) (ry : RelV y u) (rv : RelV v r) (hl : ks.length < 1000)
    (h : ∀ s', Inv X pins σ (upd H D (mxo D X.w (pM ks k y v))) s' → Q () s') : wpAny (model X.prog X.w) X.A (dictSet D u r) Q E s := by
  obtain ⟨xs, M, hp⟩ := m.at_ I
  have hz : xs.length ≤ sizeLine := by
    rw [← Paired.length hp]
    exact Nat.le_of_lt (small1000 m.len)
  refine set_mix (by omega) (KeyV.is I _ _ _ hk ry) dk M hz fun h' M' hs => h _ ?_
  obtain ⟨o, es, ep, ho, hx, hd, R⟩ := M'
  refine I.write (x := D) (e := D) (by rw [ow]; exact True.intro) (.inl rfl) (fun b q hb z => (hs.2 b hb).trans z) ⟨o, ho⟩ ?_
  refine ⟨⟨o, es, ep, _, ho, hx, hd, R.at_, rows_put hp k ry rv⟩, ⟨o, ho⟩, ?_⟩
  rintro h1 h2 ⟨o1, e1, p1, x1, a1, a2, a3, a4, a5⟩ st
  exact ⟨o1, e1, p1, x1, st _ a1, a2, a3, a4, a5⟩
def tDcM (K : PySem.W.Frag) (w : World) (wi : TI) (g : TG) (tt : TT) (tk tv : TE) (vs : List Nat) : TE := fun σ H Q => wi σ H fun J H1 => ∀ D, H1 D = none → (D == sysModules) = false → ∃ W : Nat → Nat → Hp → Prop, (∃ m, W 0 m (upd H1 D (mxo D w []))) ∧ ∀ i m H, W i m H →
  (J.stop i H ∧ Q (.ref D) H) ∨ (J.go i H ∧ ∃ Nx : Hp → Prop, (∀ H', Nx H' → ∃ m', m' < m ∧ W (i + 1) m' H') ∧ ∀ x H', J.yld i H x H' → g x (wipe σ vs) H' fun σ2 H2 => wipe σ2 vs = wipe σ vs ∧ tt σ2 H2 fun b H3 =>
    if b = true then tk σ2 H3 fun y H4 => tv σ2 H4 fun z H5 => ∃ (ks : List Mv) (k : NestedKey), Mx K H5 w D ks ∧ H5 D = some (mxo D w ks) ∧ KeyV K H5 k y ∧ k.depth ≤ 8 ∧ ks.length < 1000 ∧ Nx (upd H5 D (mxo D w (pM ks k y z))) else Nx H3)
variable {kx vx tg iter : Expr} {ifs : List Expr} {scope : Scope} {own : List (Str × Nat)} {pos : Pos} {wi : TI} {g : TG} {tt : TT} {tk tv : TE}
theorem dcM_core {pins : List (Addr × Obj)} {s : Shared} {σ : St} {H : Hp} {Q : VK} {pos' : Pos} {use : Option (Value → Sem Unit)} {Qf : Value → Shared → Prop} (hu : X.A.units + 40 < cLine) (hc : X.calm = true) (hN : X.N.Nodup) (I : Inv X pins σ H s) (hi : PI X tg iter wi) (ok : BlkOk X.N X.env.scope scope own)
    (hg : ∀ (s : Shared) (H : Hp) (C : Addr) (cl : List (Str × Addr)) (fp : List Addr), PG (X.blk s H scope (compEnvC scope cl C X.env) fp) tg g)
    (ht : ∀ (s : Shared) (H : Hp) (C : Addr) (cl : List (Str × Addr)) (fp : List Addr), PTs (X.blk s H scope (compEnvC scope cl C X.env) fp) ifs tt)
    (hk : ∀ (s : Shared) (H : Hp) (C : Addr) (cl : List (Str × Addr)) (fp : List Addr), PE (X.blk s H scope (compEnvC scope cl C X.env) fp) kx tk)
    (he : ∀ (s : Shared) (H : Hp) (C : Addr) (cl : List (Str × Addr)) (fp : List Addr), PE (X.blk s H scope (compEnvC scope cl C X.env) fp) vx tv)
    (hs : ∀ x, foldedSetIterable iter X.env x = pure x) (h : tDcM X.K X.w wi g tt tk tv (own.map (·.2)) σ H Q)
    (hRR : ∀ D C s' m H', Inv X pins σ H' s' → Q (.ref D) H' → s'.heap.Ns C m → FpOk X pins H' C → compPost (model X.prog X.w) X.A X.xe use Qf (.ref D) C (.ok .next) s') :
    wpAny (model X.prog X.w) X.A (comprehension (.DictComp kx vx [⟨tg, iter, ifs, 0⟩] scope pos) scope X.env pos' newDict false (eval iter X.env) use) Qf X.xe s := by
  have closed : ∀ y ∈ scope.names, y.2 = .free → ∃ c, X.env.cells.lookup y.1 = some c := fun y hy e => (ok.free y hy e).elim (fun z => I.ok.has _ (.inl z)) fun z => I.ok.has _ (.inr z)
  refine wpAny_comprehension_free (use := use) rfl hs (closure_ok closed) ok.kind (fun y hy e => by rw [ok.uniq y hy, e]) (thn (hi.run pins s σ H _ I h) fun _ s1 hx => thn hx fun _ s2 h2 => ?_)
  obtain ⟨it, fp, tn, J, H2, rfl, I2, T, st2, f2, q⟩ := h2
  refine wpAny_newObj_type (newEnv_comp ?_)
  -- the dict that is new
  have nD : H2 s2.heap.objs.size = none := I2.hok.fresh (Nat.le_refl _)
  have nS : (s2.heap.objs.size == sysModules) = false := by
    rw [beq_eq_false_iff_ne]
    exact Nat.ne_of_gt I2.big
  obtain ⟨W, ⟨m0, w0⟩, turn⟩ := q _ nD nS
  have old : ∀ {b : Addr} {o : Obj}, s2.heap.get? b = some o → (s2.heap.push { cls := .type "dict", data := .dict #[] }).get? b = some o := fun e => Heap.get?_push_of_some _ e
  have I3 : Inv X pins σ (upd H2 s2.heap.objs.size (mxo s2.heap.objs.size X.w [])) { s2 with heap := s2.heap.push { cls := .type "dict", data := .dict #[] } } := I2.laid (t' := s2.toks) (fun _ _ e => old e) (Nat.le_refl _) (mxo_ok (mix_new X.w s2.heap) .nil)
  have below : ∀ b ∈ fp, b < s2.heap.objs.size := fun b hb => by
    obtain ⟨o, e, _⟩ := T.obj _ _ st2 b hb
    exact Heap.lt_size e
  generalize hD : s2.heap.objs.size = D at *
  have big1 : (s2.heap.push { cls := .type "dict", data := .dict #[] }).objs.size = D + 1 := by rw [Heap.size_push, hD]
  have f3 : ∀ b ∈ fp, FpOk X pins (upd H2 D (mxo D X.w [])) b ∧ b < (s2.heap.push { cls := .type "dict", data := .dict #[] }).objs.size := fun b hb => by
    have lt := below b hb
    have f := f2 b hb
    exact ⟨⟨by rw [upd_ne (Nat.ne_of_lt lt)]; exact f.1, f.2⟩, by rw [big1]; exact Nat.lt_succ_of_lt lt⟩
  have st3 : tn 0 (s2.heap.push { cls := .type "dict", data := .dict #[] }) := T.keep _ _ _ st2 fun b _ o e => old e
  generalize hs3 : ({ s2 with heap := s2.heap.push { cls := .type "dict", data := .dict #[] } } : Shared) = s3 at I3
  have h3 : s3.heap = s2.heap.push { cls := .type "dict", data := .dict #[] } := by rw [← hs3]
  rw [← h3] at f3 st3
  have I4 := block_start I3 ok hN f3
  have pg := hg s3 (upd H2 D (mxo D X.w [])) s3.heap.objs.size (cellsFrom (s3.heap.objs.size + 1) scope.names (cloFrom X.env.cells scope.names [])) fp
  have pt := ht s3 (upd H2 D (mxo D X.w [])) s3.heap.objs.size (cellsFrom (s3.heap.objs.size + 1) scope.names (cloFrom X.env.cells scope.names [])) fp
  have pk := hk s3 (upd H2 D (mxo D X.w [])) s3.heap.objs.size (cellsFrom (s3.heap.objs.size + 1) scope.names (cloFrom X.env.cells scope.names [])) fp
  have pe := he s3 (upd H2 D (mxo D X.w [])) s3.heap.objs.size (cellsFrom (s3.heap.objs.size + 1) scope.names (cloFrom X.env.cells scope.names [])) fp
  show codeAny _ _ (.compStart (.DictComp kx vx [⟨tg, iter, ifs, 0⟩] scope pos) 0 (.ref it) (.ref D) (compEnvC scope (cellsFrom (s3.heap.objs.size + 1) scope.names (cloFrom X.env.cells scope.names [])) s3.heap.objs.size X.env))
    (compPost (model X.prog X.w) X.A X.xe use Qf (.ref D) s3.heap.objs.size) { s3 with heap := pushCells (s3.heap.push { cls := .type "dict", data := .dict #[] }) scope.names }
  have st4 : tn 0 ({ s3 with heap := pushCells (s3.heap.push { cls := .type "dict", data := .dict #[] }) scope.names } : Shared).heap := T.keep _ _ _ st3 fun b _ o e => pushCells_keeps _ _ _ _ (Heap.get?_push_of_some _ e)
  have free0 : ∀ b ∈ fp, (upd H2 D (mxo D X.w [])) b = none := fun b hb => (f3 b hb).1.1
  generalize hce : compEnvC scope (cellsFrom (s3.heap.objs.size + 1) scope.names (cloFrom X.env.cells scope.names [])) s3.heap.objs.size X.env = ce at I4 pg pt pk pe ⊢
  have lo : ce.locals = s3.heap.objs.size := by rw [← hce]; rfl
  generalize upd H2 D (mxo D X.w []) = H3 at I3 I4 pg pt pk pe w0 free0 f3
  generalize ({ s3 with heap := pushCells (s3.heap.push { cls := .type "dict", data := .dict #[] }) scope.names } : Shared) = s4 at I4 st4 ⊢
  have fps : ∀ {σ' : St} {H' : Hp} {s' : Shared}, Inv (X.blk s3 H3 scope ce fp) [] σ' H' s' → (∀ b ∈ fp, H' b = none) → ∀ b ∈ fp, FpOk (X.blk s3 H3 scope ce fp) [] H' b := fun I' n b hb =>
    ⟨n b hb, (I'.ok.exf b hb).1, I'.ok.exfs b hb, .inl hb, fun x c e => (I'.ok.exf b hb).2 x c e, fun p hp => by cases hp⟩
  have loop : codeAny (model X.prog X.w) X.A (.compLoop (.DictComp kx vx [⟨tg, iter, ifs, 0⟩] scope pos) 0 (.ref it) (.ref D) ce) (compPost (model X.prog X.w) X.A X.xe use Qf (.ref D) s3.heap.objs.size) s4 := by
    refine compLoop_anyD (fun n s' => ∃ i H', Inv (X.blk s3 H3 scope ce fp) [] (wipe σ (own.map (·.2))) H' s' ∧ tn i s'.heap ∧ (∀ b ∈ fp, H' b = none) ∧ W i n H') ?_ m0 ⟨0, H3, I4, st4, free0, w0⟩
    rintro n s5 ⟨i, H5, I5, st5, n5, w5⟩
    rcases turn i n H5 w5 with ⟨stop, qq⟩ | ⟨go, Nx, less, step⟩
    · refine thnF (T.done (X.blk s3 H3 scope ce fp) rfl rfl rfl hc i [] s5 _ H5 (fun _ _ => False) I5 (fps I5 n5) st5 stop) fun r s6 ⟨hr, I6⟩ => ?_
      subst hr
      have out : Inv X pins σ H5 s6 := I3.call' (ch := fp) I6.os I6.base I6.hok I6.bare fun b hb => ⟨(f3 b hb).1.2.2.2.1, (f3 b hb).1.2.1, (f3 b hb).1.2.2.2.2.1, (f3 b hb).1.2.2.2.2.2⟩
      have nL : H5 s3.heap.objs.size = none := by
        rw [← lo]
        exact I6.free
      obtain ⟨m, hn, _⟩ := I6.loc
      have hn' : s6.heap.Ns ce.locals m := hn
      rw [lo] at hn'
      exact hRR _ _ s6 m H5 out qq hn' (I3.fpOk (Nat.le_refl _) nL)
    · refine thnF (T.item (X.blk s3 H3 scope ce fp) rfl rfl rfl hc i [] s5 _ H5 (fun _ _ => False) I5 (fps I5 n5) st5 go) fun r s6 ⟨u, hr, h6⟩ => ?_
      subst hr
      refine thnF h6 fun _ s7 ⟨x, H7, I7, r7, y7, st7, n7⟩ => ?_
      refine thnF (pg.run _ s7 _ H7 x u _ (I7.pinned (fps I7 n7) (T.obj _ _ st7)) r7 (step x H7 y7)) fun _ s8 ⟨σ8, H8, I8, hw8, q8⟩ => ?_
      refine thnF (pt.run _ s8 σ8 H8 _ I8 q8) fun b s9 ⟨H9, I9, q9⟩ => ?_
      have ends : ∀ {s' : Shared} {H' : Hp}, Inv (X.blk s3 H3 scope ce fp) ([] ++ pinsAt fp s7.heap) σ8 H' s' → Nx H' → ∃ m, m < n ∧ ∃ i H', Inv (X.blk s3 H3 scope ce fp) [] (wipe σ (own.map (·.2))) H' s' ∧ tn i s'.heap ∧ (∀ b ∈ fp, H' b = none) ∧ W i m H' := fun {s' H'} I' nx => by
        obtain ⟨m', lt, w'⟩ := less H' nx
        have pinned : ∀ b ∈ fp, ∀ o, s7.heap.get? b = some o → s'.heap.get? b = some o ∧ H' b = none := fun b hb o e =>
          have z := I'.pin (b, o) (List.mem_append_right _ (List.mem_append_right _ (mem_pinsAt hb e)))
          ⟨z.1, z.2.1⟩
        refine ⟨m', lt, i + 1, H', (I'.unpinned (pins := [])).weak (by rw [← hw8, wipe_length]) (fun j v e => ?_), T.keep _ _ _ st7 fun b hb o e => (pinned b hb o e).1, fun b hb => ?_, w'⟩
        · rw [← hw8] at e
          exact (wipe_some e).1
        · obtain ⟨o, e, _⟩ := T.obj _ _ st7 b hb
          exact (pinned b hb o e).2
      cases b with
      | false =>
        rw [if_neg Bool.false_ne_true] at q9 ⊢
        exact ends I9 q9
      | true =>
        rw [if_pos rfl] at q9 ⊢
        refine thnF (pk.run _ s9 σ8 H9 _ I9 q9) fun z s10 ⟨yk, H10, I10, r10, q10⟩ => ?_
        refine thnF (pe.run _ s10 σ8 H10 _ I10 q10) fun z2 s11 ⟨yv, H11, I11, r11, ks, k, mm, ow, kk, kd, kl, nx⟩ => ?_
        exact m_put (X := X.blk s3 H3 scope ce fp) hu I11 mm ow kk kd r10 r11 kl fun s12 I12 => ends I12 nx
  exact codeAny_compStart_dict loop (T.self X.A 0 _ _ _ st4 loop)
theorem pe_dcM {K : PySem.W.Frag} {w : World} (hu : X.A.units + 40 < cLine) (hc : X.calm = true) (hN : X.N.Nodup) (hi : PI X tg iter wi) (ok : BlkOk X.N X.env.scope scope own)
    (hg : ∀ (s : Shared) (H : Hp) (C : Addr) (cl : List (Str × Addr)) (fp : List Addr), PG (X.blk s H scope (compEnvC scope cl C X.env) fp) tg g)
    (ht : ∀ (s : Shared) (H : Hp) (C : Addr) (cl : List (Str × Addr)) (fp : List Addr), PTs (X.blk s H scope (compEnvC scope cl C X.env) fp) ifs tt)
    (hk : ∀ (s : Shared) (H : Hp) (C : Addr) (cl : List (Str × Addr)) (fp : List Addr), PE (X.blk s H scope (compEnvC scope cl C X.env) fp) kx tk)
    (he : ∀ (s : Shared) (H : Hp) (C : Addr) (cl : List (Str × Addr)) (fp : List Addr), PE (X.blk s H scope (compEnvC scope cl C X.env) fp) vx tv)
    (hs : ∀ x, foldedSetIterable iter X.env x = pure x := by intro _; rfl) (hK : X.K = K := by rfl) (hw : X.w = w := by rfl) : PE X (.DictComp kx vx [⟨tg, iter, ifs, 0⟩] scope pos) (tDcM K w wi g tt tk tv (own.map (·.2))) := by
  subst hK hw
  refine ⟨fun pins s σ H Q I h => ?_⟩
  rw [arm_eval_DictComp]
  refine dcM_core hu hc hN I hi ok hg ht hk he hs h fun D C s' m H' I' q hn f => ⟨m, hn, fun h'' sb => ?_⟩
  obtain ⟨f0, f1, f2, f3, f4, f5⟩ := f
  exact ⟨.ref D, H', I'.turned (t' := s'.toks) (fun b o hb e => (sb.2 b hb).trans e) f0 f1 f3 f4 f5, rfl, q⟩
/-- put into a name of the block's own def at once -/
theorem ps_setDcM {K : PySem.W.Frag} {w : World} {i : Nat} {y : Str} {py spos : Pos} (hu : X.A.units + 40 < cLine) (hc : X.calm = true) (hN : X.N.Nodup) (hy : X.N[i]? = some y) (hyl : X.env.scope.names.lookup y = some .local)
    (hsw : swapsWith (.DictComp kx vx [⟨tg, iter, ifs, 0⟩] scope pos) (some (.Name y py)) spos.line X.env = pure true) (hi : PI X tg iter wi) (ok : BlkOk X.N X.env.scope scope own)
    (hg : ∀ (s : Shared) (H : Hp) (C : Addr) (cl : List (Str × Addr)) (fp : List Addr), PG (X.blk s H scope (compEnvC scope cl C X.env) fp) tg g)
    (ht : ∀ (s : Shared) (H : Hp) (C : Addr) (cl : List (Str × Addr)) (fp : List Addr), PTs (X.blk s H scope (compEnvC scope cl C X.env) fp) ifs tt)
    (hk : ∀ (s : Shared) (H : Hp) (C : Addr) (cl : List (Str × Addr)) (fp : List Addr), PE (X.blk s H scope (compEnvC scope cl C X.env) fp) kx tk)
    (he : ∀ (s : Shared) (H : Hp) (C : Addr) (cl : List (Str × Addr)) (fp : List Addr), PE (X.blk s H scope (compEnvC scope cl C X.env) fp) vx tv)
    (hs : ∀ x, foldedSetIterable iter X.env x = pure x := by intro _; rfl) (hK : X.K = K := by rfl) (hw : X.w = w := by rfl) :
    PS X (.Assign [.Name y py] (.DictComp kx vx [⟨tg, iter, ifs, 0⟩] scope pos) spos) (tAsg (tDcM K w wi g tt tk tv (own.map (·.2))) (gName i)) := by
  subst hK hw
  refine ⟨fun pins s σ H D I h => ?_⟩
  rw [exec_Assign_Name_used _ _ _ _ hsw]
  refine wpAny_bind (wpAny_standAt (wpAny_bind ?_))
  show wpAny _ X.A (do let _ ← comprehension (.DictComp kx vx [⟨tg, iter, ifs, 0⟩] scope pos) scope X.env (firstIterPos [⟨tg, iter, ifs, 0⟩] pos) newDict false (eval iter X.env) (some (assign (.Name y py) X.env))) _ _ s
  have h : tDcM X.K X.w wi g tt tk tv (own.map (·.2)) σ H (fun x H1 => gName i x σ H1 D.nx) := h
  refine wpAny_bind (thn (dcM_core (Qf := fun _ s' => SP X pins D .next s') hu hc hN I hi ok hg ht hk he hs h fun L C s' m H' I' q hn f => ?_) fun _ s' hq => wpAny_pure (wpAny_pure hq))
  show wpAny _ _ (assign (.Name y py) X.env (.ref L)) _ _ _
  refine wpAny_assign_Name (store_ok2 (v := V.ref L) I' hN hy (.inl hyl) rfl (fun s2 I2 ⟨a, sb, ha⟩ => ?_) (.inr hyl))
  obtain ⟨f0, f1, f2, f3, f4, f5⟩ := f
  have haC : C ≠ a := by
    rcases ha with z | z
    · rw [z]
      exact f1
    · exact fun e => f4 y a z e.symm
  refine ⟨m, hn.sameBut sb haC, fun h3 sb3 => ?_⟩
  exact ⟨_, H', I2.turned (t' := s2.toks) (fun b o hb e => (sb3.2 b hb).trans e) f0 f1 f3 f4 f5, q⟩
theorem sw_trueD {ke ve : Expr} {gs : List Comprehension} {scope : Scope} {pos py : Pos} {y : Str} {l : Nat} {env : Env} (hk : env.scope.kind = .function) (hy : env.scope.names.lookup y = some .local) (hl : (py.line == pos.line) = true)
    (ha : (scope.names.any fun (n, k) => n == y && (k == .local || k == .cell)) = false) : swapsWith (.DictComp ke ve gs scope pos) (some (.Name y py)) l env = pure true := by
  have ky : env.kindOf y = some .local := hy
  have hb : env.blockKind = .function := by unfold Env.blockKind; rw [hk]; rfl
  unfold swapsWith
  simp only [hb, ky, ha, Expr.pos, hl]
  rfl
/-- over a list that stays -/
theorem dcM_list {K : PySem.W.Frag} {w : World} {a : Addr} {xs : List V} {vs : List Nat} {σ : St} {H1 : Hp} {D : Addr} {Qd : Hp → Prop} (Pv : Nat → Hp → Prop) (h0 : Pv 0 (upd H1 D (mxo D w []))) (hl : ∀ i H, i ≤ xs.length → Pv i H → SqL K H a xs)
    (hs : ∀ i x H, xs[i]? = some x → Pv i H → g x (wipe σ vs) H fun σ2 H2 => wipe σ2 vs = wipe σ vs ∧ tt σ2 H2 fun b H3 =>
      if b = true then tk σ2 H3 fun y H4 => tv σ2 H4 fun z H5 => ∃ (ks : List Mv) (k : NestedKey), Mx K H5 w D ks ∧ H5 D = some (mxo D w ks) ∧ KeyV K H5 k y ∧ k.depth ≤ 8 ∧ ks.length < 1000 ∧ Pv (i + 1) (upd H5 D (mxo D w (pM ks k y z))) else Pv (i + 1) H3) (hd : ∀ H, Pv xs.length H → Qd H) :
    ∃ W : Nat → Nat → Hp → Prop, (∃ m, W 0 m (upd H1 D (mxo D w []))) ∧ ∀ i m H, W i m H →
      ((Itl K a).stop i H ∧ Qd H) ∨ ((Itl K a).go i H ∧ ∃ Nx : Hp → Prop, (∀ H', Nx H' → ∃ m', m' < m ∧ W (i + 1) m' H') ∧ ∀ x H', (Itl K a).yld i H x H' → g x (wipe σ vs) H' fun σ2 H2 => wipe σ2 vs = wipe σ vs ∧ tt σ2 H2 fun b H3 =>
        if b = true then tk σ2 H3 fun y H4 => tv σ2 H4 fun z H5 => ∃ (ks : List Mv) (k : NestedKey), Mx K H5 w D ks ∧ H5 D = some (mxo D w ks) ∧ KeyV K H5 k y ∧ k.depth ≤ 8 ∧ ks.length < 1000 ∧ Nx (upd H5 D (mxo D w (pM ks k y z))) else Nx H3) := by
  refine ⟨fun i m H => m = xs.length - i ∧ i ≤ xs.length ∧ Pv i H, ⟨xs.length, by simp, Nat.zero_le _, h0⟩, ?_⟩
  rintro i m H ⟨rfl, le, p⟩
  have q := hl i H le p
  rcases Nat.lt_or_ge i xs.length with lt | ge
  · refine .inr ⟨⟨xs, xs[i], q, by simp [lt]⟩, Pv (i + 1), fun H' p' => ⟨xs.length - (i + 1), by omega, rfl, lt, p'⟩, fun x H' y => ?_⟩
    obtain ⟨rfl, y⟩ := y
    exact hs i x _ (y xs q) p
  · obtain rfl : i = xs.length := by omega
    exact .inl ⟨⟨xs, q, Nat.le_refl _⟩, hd H p⟩
end
end L2.Vf
/-! Dicts of mixed keys: len, truth, isinstance, list(d.items()). -/
namespace L2.Vf
open PySem PySem.Spec PyProof.Rows
section
variable {prog : Program} {w : World} {A : Around} {E : Value → Shared → Prop} {s : Shared} {xs : List Mr} {d : Addr}
theorem len_mix {Q : Value → Shared → Prop} (M : MixAt w s.heap d xs) (hd : (d == sysModules) = false) (hz : xs.length ≤ sizeLine) (h : ∀ t tk, Q (.int xs.length t) { s with toks := tk }) :
    wpAny (model prog w) A (Builtin.«len» ⟨[.ref d], []⟩) (fun fin s' => ∃ r, fin = .done (.ret r) ∧ Q r s') E s := by
  obtain ⟨o, es, ep, ho, hx, hdat, R⟩ := id M
  have hs := R.size
  have fit : ((es.size : Nat) : Int) < 2 ^ 63 := by rw [sizeLine_eq] at hz; omega
  unfold Builtin.«len»
  refine wpAny_bind (m := oneArg "len" _) (wpAny_pure ?_)
  refine wpAny_bind (m := callSpecial? (.ref d) (Str.ofString "__len__")) (wpAny_callSpecial?_slot (name := Str.ofString "__len__") M.typeIs F.slot_dict_len
    (call_len_raw hd ⟨o, ho, hx, hdat⟩ ?_))
  show wpAny _ _ _ _ _ { s with toks := s.toks + 1 }
  refine wpAny_bind (wpAny_holding (wpAny_pure ?_))
  refine wpAny_bind (wpAny_letGo ?_)
  show wpAny _ _ (if ((es.size : Nat) : Int) < 0 then _ else _) _ _ _
  rw [if_neg (by omega)]
  show wpAny _ _ (if ((es.size : Nat) : Int) ≥ 2 ^ 63 then _ else _) _ _ _
  rw [if_neg (by omega)]
  rw [hs]
  exact wpAny_bind (wpAny_mkInt (wpAny_pure ⟨_, rfl, h _ _⟩))
theorem truthy_mix {Q : Bool → Shared → Prop} (M : MixAt w s.heap d xs) (hd : (d == sysModules) = false) (hz : xs.length ≤ sizeLine) (h : ∀ tk, Q (!xs.isEmpty) { s with toks := tk }) :
    wpAny (model prog w) A (truthy (.ref d)) Q E s := by
  have hne : ((xs.length : Int) != 0) = !xs.isEmpty := by cases xs <;> simp <;> omega
  have key : wpAny (model prog w) A (runValue (.builtin "len" ⟨[.ref d], []⟩)) (fun r s' => (∃ t, r = .int xs.length t) ∧ Q (!xs.isEmpty) s') E s := by
    refine wpAny_runValue (codeAny_builtin entry_len ?_)
    rw [Around.under_plainId plain_len _]
    exact wpAny_mono (len_mix (Q := fun r s' => (∃ t, r = .int xs.length t) ∧ Q (!xs.isEmpty) s') M hd hz fun t tk => ⟨⟨t, rfl⟩, h tk⟩)
      (fun fin s' h' => by obtain ⟨r, rfl, hq⟩ := h'; exact hq) fun _ _ e => e
  unfold truthy
  first
    | refine wpAny_bind (wpAny_callSpecial?_none (name := Str.ofString "__bool__") M.typeIs noBool_dict ?_)
    | refine wpAny_bind (wpAny_pure (wpAny_bind (wpAny_callSpecial?_none (name := Str.ofString "__bool__") M.typeIs noBool_dict ?_)))
  first
    | refine wpAny_bind (wpAny_specialOf (name := Str.ofString "__len__") M.typeIs F.slot_dict_len.lookup ?_)
    | refine wpAny_bind (wpAny_pure (wpAny_bind (wpAny_specialOf (name := Str.ofString "__len__") M.typeIs F.slot_dict_len.lookup ?_)))
  first
    | exact wpAny_bind (wpAny_mono key (fun r s' h' => by obtain ⟨⟨t, rfl⟩, hq⟩ := h'; exact wpAny_pure (hne ▸ hq)) fun _ _ e => e)
    | exact wpAny_bind (wpAny_pure (wpAny_bind (wpAny_mono key (fun r s' h' => by obtain ⟨⟨t, rfl⟩, hq⟩ := h'; exact wpAny_pure (hne ▸ hq)) fun _ _ e => e)))
/-- list(view), the view of any dict's pairs -/
theorem list_view {r : Addr} {es : Array DictEntry} {ep : Nat} {Q : Value → Shared → Prop} (hh : A.handled = none) (hv : s.heap.IsItemsView r d) (hm : DT.Raw s.heap d es ep) (hn : es.size ≤ sizeLine)
    (hQ : ∀ h' tk acc c as, (∀ b o, s.heap.get? b = some o → h'.get? b = some o) → h'.get? s.heap.objs.size = some { cls := .type "list", dict := none, data := .seq acc c, slots := #[] } → as.length = es.size → DT.Made es s.heap.objs.size h' as →
      acc.toList = as.map Value.ref → Q (.ref s.heap.objs.size) { s with heap := h', toks := tk }) :
    wpAny (model prog w) A (call (.type "list") [.ref r]) Q E s := by
  refine callType_codes (Q₁ := fun obj s₁ => obj = .ref s.heap.objs.size ∧ s₁ = { s with heap := s.heap.push { cls := .type "list", data := .seq #[] } }) PySem.F.called_list (PySem.F.typeCall_list_1 _) PySem.F.entry_list_init
    (code_list_new _ ⟨rfl, rfl⟩) fun obj s₁ h₁ => ?_
  obtain ⟨rfl, rfl⟩ := h₁
  generalize hp : s.heap.push { cls := .type "list", data := .seq #[] } = h1
  have hS : h1.get? s.heap.objs.size = some { cls := .type "list", data := .seq #[] } := by rw [← hp]; exact Heap.get?_push_size _ rfl
  have up : ∀ b o, s.heap.get? b = some o → h1.get? b = some o := fun b o e => by rw [← hp]; exact Heap.get?_push_of_some _ e
  have hr : r < s.heap.objs.size := let ⟨_, ho, _⟩ := hv; Heap.lt_size ho
  have hd : d < s.heap.objs.size := hm.lt
  refine ⟨⟨_, hS, rfl⟩, PySem.F.args_list_init_2 _ _, ?_⟩
  show wpAny _ _ (do let old ← Builtin.List.listItems (.ref s.heap.objs.size); Builtin.List.listUpdate (.ref s.heap.objs.size) (fun _ => #[]); letGo old.toList.reverse; Builtin.List.listExtendWith (.ref s.heap.objs.size) (.ref r) .none) _ _ _
  refine wpAny_bind ?_
  unfold Builtin.List.listItems
  refine wpAny_bind (wpAny_seqItems (s := { s with heap := h1 }) hS rfl (wpAny_pure ?_))
  show wpAny _ _ (updateSeq s.heap.objs.size (fun _ => #[]) >>= fun _ => letGo (#[] : Array Value).toList.reverse >>= fun _ => Builtin.List.listExtendWith (.ref s.heap.objs.size) (.ref r) .none) _ _ _
  refine wpAny_bind (wpAny_updateSeq hS rfl ?_)
  have hS₂ := Heap.get?_update_self (Obj.mapSeq (fun _ => (#[] : Array Value))) hS rfl
  have oth : ∀ b o, b ≠ s.heap.objs.size → h1.get? b = some o → (h1.update s.heap.objs.size (Obj.mapSeq (fun _ => (#[] : Array Value)))).get? b = some o :=
    fun b o hb e => (Heap.get?_update_other _ _ (Ne.symm hb)).trans e
  refine wpAny_bind (wpAny_letGo ?_)
  have nr : r ≠ s.heap.objs.size := Nat.ne_of_lt hr
  have nd : d ≠ s.heap.objs.size := Nat.ne_of_lt hd
  refine DT.extI (prog := prog) (w := w) (A := A.in1) (s := { s with heap := h1.update s.heap.objs.size (Obj.mapSeq (fun _ => (#[] : Array Value))) }) (es := es) (ep := ep) hh (let ⟨o, ho, x⟩ := hv; ⟨o, oth r o nr (up _ _ ho), x⟩) (hm.at' fun o e => oth d o nd (up _ _ e)) s.heap.objs.size (Ne.symm nr) nd .none _ hS₂ (fun h' tk acc c as hk hS' hl hG hacc => ?_) hn
  exact ⟨rfl, hQ h' tk acc c as (fun b o e => hk b o (Nat.ne_of_lt (Heap.lt_size e)) (oth b o (Nat.ne_of_lt (Heap.lt_size e)) (up _ _ e))) hS' hl (hG.low (Nat.le_of_lt (Heap.lt_size hS₂))) hacc⟩
end
/-- the pairs, tracked at their addresses -/
def putP : Hp → List Addr → List Mv → Hp
  | H, a :: as, p :: ks => putP (upd H a (.tup [p.2.1, p.2.2])) as ks
  | H, _, _ => H
theorem putP_off {b : Addr} : ∀ (as : List Addr) (ks : List Mv) (H : Hp), b ∉ as → putP H as ks b = H b
  | [], _, _, _ => rfl
  | _ :: _, [], _, _ => rfl
  | a :: as, p :: ks, H, h => by
    show putP (upd H a (.tup [p.2.1, p.2.2])) as ks b = H b
    rw [putP_off as ks _ (fun z => h (List.mem_cons_of_mem _ z)), upd_ne (fun z => h (by rw [z]; exact List.mem_cons_self))]
theorem putP_at : ∀ (as : List Addr) (ks : List Mv) (H : Hp), as.length = ks.length → as.Nodup → Paired (fun (t : Addr) (p : Mv) => putP H as ks t = some (.tup [p.2.1, p.2.2])) as ks
  | [], [], _, _, _ => .nil
  | [], _ :: _, _, h, _ => by cases h
  | _ :: _, [], _, h, _ => by cases h
  | a :: as, p :: ks, H, h, hn => by
    have hn' := List.nodup_cons.mp hn
    refine .cons ?_ (putP_at as ks (upd H a (.tup [p.2.1, p.2.2])) (Nat.succ.inj h) hn'.2)
    show putP (upd H a (.tup [p.2.1, p.2.2])) as ks a = some (.tup [p.2.1, p.2.2])
    rw [putP_off as ks _ hn'.1, upd_same]
def rLenM (K : PySem.W.Frag) (w : World) : List V → Hp → VK → Prop := fun xs H Q => ∃ (d : Addr) (ks : List Mv), xs = [.ref d] ∧ Mx K H w d ks ∧ Q (.int ks.length) H
def rIsiM (K : PySem.W.Frag) (w : World) : List V → Hp → VK → Prop := fun xs H Q => ∃ (d : Addr) (ks : List Mv), xs = [.ref d, .ty "dict"] ∧ Mx K H w d ks ∧ Q (.bl true) H
def tTruM (K : PySem.W.Frag) (w : World) (ta : TE) : TT := fun σ H Q => ta σ H fun x H' => ∃ (d : Addr) (ks : List Mv), x = .ref d ∧ Mx K H' w d ks ∧ Q (!ks.isEmpty) H'
def tItemsM (K : PySem.W.Frag) (w : World) (te : TE) : TE := fun σ H Q => te σ H fun x H1 => ∃ (d : Addr) (ks : List Mv), x = .ref d ∧ Mx K H1 w d ks ∧
  ∀ (H' : Hp) (p : Addr) (ts : List Addr), (∀ b o, H1 b = some o → H' b = some o) → H1 p = none → (∀ t ∈ ts, H1 t = none) → p ∉ ts → H' p = some (.lst (ts.map V.ref)) → Paired (fun (t : Addr) (q : Mv) => H' t = some (.tup [q.2.1, q.2.2])) ts ks → Q (.ref p) H'
section
variable {X : Cx} {K : PySem.W.Frag} {w : World} {a e : Expr} {ta te : TE} {p apos cpos pos : Pos}
theorem call_lenM (hK : X.K = K := by rfl) (hw : X.w = w := by rfl) : CallR X (.builtin "len") (rLenM K w) := by
  subst hK hw
  intro pins s σ H xs us Q I r h
  obtain ⟨d, ks, rfl, m, q⟩ := h
  obtain ⟨u, rfl, rx⟩ := vals1 r
  cases rx
  obtain ⟨rows, M, hp⟩ := m.at_ I
  have lk := Paired.length hp
  refine Calls.call_function_entry kind_len plain_len entry_len (args_len1 _) (len_mix M m.sys (by rw [← lk]; exact Nat.le_of_lt (small1000 m.len)) fun t tk => ?_)
  exact ⟨.int ks.length, H, I.tok tk, ⟨t, by rw [lk]⟩, q⟩
theorem call_isiM (hK : X.K = K := by rfl) (hw : X.w = w := by rfl) : CallR X (.builtin "isinstance") (rIsiM K w) := by
  subst hK hw
  intro pins s σ H xs us Q I r h
  obtain ⟨d, ks, rfl, m, q⟩ := h
  obtain ⟨u1, u2, rfl, r1, r2⟩ := vals2 r
  cases r1
  obtain rfl : u2 = Value.type "dict" := r2
  obtain ⟨rows, ⟨o, es, ep, ho, hx, _⟩, _⟩ := m.at_ I
  exact PySem.W.kia_one (PySem.W.kitx_dict (K := X.K)) I.kIn ⟨o, ho, hx.1⟩ (kit_ty (r := true) (by decide +kernel)) (fun z => nomatch z) fun tk => ⟨.bl true, H, I.tok tk, rfl, q⟩
theorem pt_truthM (ha : PE X a ta) (he : ∀ whole, isTrue a X.env whole = (do let v ← whole; standAt a.pos; holding [v] (truthy v))) (hK : X.K = K := by rfl) (hw : X.w = w := by rfl) : PT X a (tTruM K w ta) := by
  subst hK hw
  refine ⟨fun pins s σ H Q I h => ?_⟩
  refine isTrue_plain (thn (ha.run pins s σ H _ I h) fun v s1 ⟨x, H1, I1, r1, d, ks, ex, m, q1⟩ => ?_) (he _)
  subst ex
  obtain rfl : v = Value.ref d := r1
  obtain ⟨rows, M, hp⟩ := m.at_ I1
  have lk := Paired.length hp
  refine truthy_mix M m.sys (by rw [← lk]; exact Nat.le_of_lt (small1000 m.len)) fun tk => ⟨H1, I1.tok tk, ?_⟩
  have : (!rows.isEmpty) = !ks.isEmpty := by cases hp <;> rfl
  rw [this]
  exact q1
theorem itemsM_laid {pins : List (Addr × Obj)} {σ : L2.St} {H : Hp} {s : Shared} {h' : Heap} {tk : Nat} {ks : List Mv} {rows : List Mr} {es : Array DictEntry} {acc : Array Value} {c : Nat} {as : List Addr} (I : Inv X pins σ H s) (hz : ks.length ≤ sizeLine) (kv : Paired RowR ks rows) (he : es.toList = rows.map (mEnt X.w))
    (hk : ∀ b o, s.heap.get? b = some o → h'.get? b = some o) (hS : h'.get? s.heap.objs.size = some { cls := .type "list", dict := none, data := .seq acc c, slots := #[] }) (hl : as.length = es.size) (hG : DT.Made es s.heap.objs.size h' as) (hacc : acc.toList = as.map Value.ref) :
    ∃ H' : Hp, (∀ b o, H b = some o → H' b = some o) ∧ H s.heap.objs.size = none ∧ (∀ t ∈ as, H t = none) ∧ s.heap.objs.size ∉ as ∧ H' s.heap.objs.size = some (.lst (as.map V.ref)) ∧ Paired (fun (t : Addr) (q : Mv) => H' t = some (.tup [q.2.1, q.2.2])) as ks ∧ Inv X pins σ H' { s with heap := h', toks := tk } := by
  have lk : ks.length = rows.length := Paired.length kv
  have le : es.size = rows.length := by rw [← Array.length_toList, he, List.length_map]
  have hSn : s.heap.objs.size ∉ as := fun z => Nat.lt_irrefl _ (hG.above _ z)
  have nd : as.Nodup := List.Pairwise.imp (fun {a b} (h : a < b) => Nat.ne_of_lt h) hG.rise
  have new : ∀ t ∈ as, H t = none := fun t ht => I.hok.fresh (Nat.le_of_lt (hG.above t ht))
  have newS : H s.heap.objs.size = none := I.hok.fresh (Nat.le_refl _)
  have atP := putP_at as ks (upd H s.heap.objs.size (.lst (as.map V.ref))) (by omega) nd
  have off : ∀ b, b ∉ as → b ≠ s.heap.objs.size → putP (upd H s.heap.objs.size (.lst (as.map V.ref))) as ks b = H b := fun b h1 h2 => by rw [putP_off as ks _ h1, upd_ne h2]
  have low : ∀ b o, s.heap.get? b = some o → b ∉ as ∧ b ≠ s.heap.objs.size := fun b o e => ⟨fun z => absurd (Heap.lt_size e) (Nat.not_lt.mpr (Nat.le_of_lt (hG.above b z))), Nat.ne_of_lt (Heap.lt_size e)⟩
  have kp : ∀ b u, H b = some u → (putP (upd H s.heap.objs.size (.lst (as.map V.ref))) as ks) b = some u := fun b u e => by
    rw [off b (fun z => by rw [new b z] at e; cases e) (fun z => by rw [z, newS] at e; cases e)]
    exact e
  have eS : putP (upd H s.heap.objs.size (.lst (as.map V.ref))) as ks s.heap.objs.size = some (.lst (as.map V.ref)) := by rw [putP_off as ks _ hSn, upd_same]
  refine ⟨putP (upd H s.heap.objs.size (.lst (as.map V.ref))) as ks, kp, newS, new, hSn, eS, atP, ?_⟩
  refine I.call' (ch := []) rfl ⟨fun b o q _ _ _ => hk b o q, fun b o q _ _ _ => ⟨o.slots, hk b o q⟩, fun b o q n _ => ?_, fun b o q _ => ⟨o, hk b o q⟩, fun b xs q => kp b _ q, fun b o u q => kp b _ q, fun b ps q => ⟨#[], by rw [kp b _ q]; simp⟩⟩ (fun b u q => ?_) I.bare fun b z => by simp at z
  · obtain ⟨z1, z2⟩ := low b o q
    rw [off b z1 z2]
    exact n
  · by_cases hb : b ∈ as
    · obtain ⟨j, pk, e1, e2, e3⟩ := LiI.paired_ix atP hb
      rw [e3] at q
      cases q
      obtain ⟨en, f1, f3⟩ := hG.pairs j b e1
      obtain ⟨r, g1, g0, g2, g3⟩ := LiI.paired_get kv e2
      rw [← Array.getElem?_toList, he, List.getElem?_map, g1] at f1
      obtain rfl : mEnt X.w r = en := Option.some.inj f1
      exact ⟨by show 2 ≤ sizeLine; decide, [r.2.1, r.2.2], .cons g2 (.cons g3 .nil), ⟨_, f3, rfl, _, rfl⟩⟩
    · by_cases hb2 : b = s.heap.objs.size
      · rw [hb2] at q ⊢
        rw [eS] at q
        cases q
        refine ⟨by rw [List.length_map]; omega, acc.toList, c, by rw [hacc]; exact LiI.vals_refs as, ?_⟩
        rw [Array.toArray_toList]
        exact hS
      · rw [off b hb hb2] at q
        exact (I.hok b u q).stay (fun d v _ y => hk d v y) (fun d y => kp d _ y) fun d xs y => kp d _ y
/-- list(e.items()) -/
theorem pe_listItemsM (hc : X.calm = true) (he : PE X e te) (hg : Gl X "list") (hm : X.mg "list" = none) (hv : bootBuiltins "list" = some (.type "list")) (hbase : attributeBase e "items" X.env (eval e X.env) = eval e X.env := by rfl) (hline : (apos.endLine == cpos.line) = true := by rfl)
    (hs : starEach [.Call (.Attribute e "items" apos) [] [] cpos] X.env = (false, eval (.Call (.Attribute e "items" apos) [] [] cpos) X.env) :: starEach [] X.env := by rfl) (hK : X.K = K := by rfl) (hw : X.w = w := by rfl) :
    PE X (.Call (.Name "list" p) [.Call (.Attribute e "items" apos) [] [] cpos] [] pos) (tItemsM K w te) := by
  subst hK hw
  refine ⟨fun pins s σ H Q I hq => ?_⟩
  refine wpAny_Call_Name_kw (ld_blt I hg hm hv ?_)
  refine PyProof.Rows.callWith_type1 ?_ hs rfl
  rw [hs]
  show wpAny _ _ (spliced ((false, eval (.Call (.Attribute e "items" apos) [] [] cpos) X.env) :: backTo pos (starEach [] X.env))) _ _ s
  refine Calls.spliced_cons ?_
  refine wpAny_Call_method (T := "dict") (id := "dict.items") hbase rfl hline F.plainAttrs_dict F.slot_dict_items F.type_dict_items (thn (he.run pins s σ H _ I hq) fun u s1 ⟨x, H1, I1, rx, d, ks, ex, m, q⟩ => ?_)
  subst ex
  obtain rfl : u = Value.ref d := rx
  obtain ⟨rows, M, hp⟩ := m.at_ I1
  obtain ⟨o, es, ep, ho, hx, hd, R⟩ := id M
  have I2 : Inv X pins σ H1 { s1 with heap := s1.heap.push { cls := .type "dict_items", data := .fields #[.ref d] } } := I1.kept (t' := s1.toks) fun b ob q => Heap.get?_push_of_some _ q
  have raw : DT.Raw s1.heap d es ep := ⟨o, ho, hx, hd⟩
  refine ⟨raw.typeIs, ?_, ?_⟩
  · intro b eb
    injection eb with eb
    subst eb
    exact ⟨o, ho, hx.2.1⟩
  show wpAny _ _ (callWith cpos (.builtin "dict.items") [.ref d] [] []) _ X.xe s1
  refine method_meetsIn F.slot_dict_items F.entry_dict_items rfl (PySem.evalArgs_none ⟨rfl, raw.typeIs, F.args_dict_items_1 _, _, DT.meetsItems (es := es) (ep := ep) m.sys, raw, ?_⟩)
  refine Calls.spliced_nil ?_
  have hz : es.size ≤ sizeLine := by
    rw [R.size, ← Paired.length hp]
    exact Nat.le_of_lt (small1000 m.len)
  refine list_view (es := es) (ep := ep) (I1.ok.hd hc) ⟨_, Heap.get?_push_size _ rfl, rfl, rfl⟩ (raw.push _) hz fun h' tk acc c as hk hS hl hG hacc => ?_
  obtain ⟨H', k1, k2, k3, k4, k5, k6, J⟩ := itemsM_laid (tk := tk) I2 (Nat.le_of_lt (small1000 m.len)) hp R.at_ hk hS hl hG hacc
  exact ⟨.ref _, H', J, rfl, q H' _ as k1 k2 k3 k4 k5 k6⟩
end
end L2.Vf
/-! all([..]) where each is true. -/
namespace L2.Vf
open PySem PySem.Spec PyProof.Rows
open Evl (Ex Ev EvT EvL EvA)
section
variable {X : Cx} {K : PySem.W.Frag}
theorem cr_allK (hc : X.calm = true) (hK : X.K = K := by rfl) : CallR X (.builtin "all") (rAll K) := by
  subst hK
  exact cr_all hc
theorem call_isiTK (hK : X.K = K := by rfl) : CallR X (.builtin "isinstance") (rIsiT K) := by
  subst hK
  exact call_isiT
end
/-- a comprehension that gives one truth after another, nothing written -/
theorem lc_true {J : It} {n : Nat} {G : Hp → Prop} {Z : Nat → V → Prop} (wk : Walk J n G (fun i H x H' => H' = H ∧ Z i x)) {g : TG} {tt : TT} {te : TE} {vs : List Nat} {σ : St} {H : Hp} {D : Addr} {Qd : Hp → Prop} (nD : H D = none) (hn : n ≤ 1000)
    (hG : ∀ H', Ex H H' → G H')
    (hs : ∀ i x H', i < n → Ex H H' → Z i x → ∀ (N : VK) (M : Hp → Prop), (∀ H4, Ex H' H4 → N (.bl true) H4) → g x (wipe σ vs) H' fun σ2 H2 => wipe σ2 vs = wipe σ vs ∧ tt σ2 H2 fun b H3 => if b = true then te σ2 H3 N else M H3)
    (hd : ∀ H', Ex H H' → H' D = some (.lst ((List.replicate n true).map V.bl)) → Qd H') :
    ∃ W : Nat → Nat → Hp → Prop, (∃ m, W 0 m (upd H D (.lst []))) ∧ ∀ i m H, W i m H →
      (J.stop i H ∧ Qd H) ∨ (J.go i H ∧ ∃ Nx : Hp → Prop, (∀ H', Nx H' → ∃ m', m' < m ∧ W (i + 1) m' H') ∧ ∀ x H', J.yld i H x H' → g x (wipe σ vs) H' fun σ2 H2 => wipe σ2 vs = wipe σ vs ∧ tt σ2 H2 fun b H3 =>
        if b = true then te σ2 H3 fun y H4 => ∃ acc, H4 D = some (.lst acc) ∧ acc.length < sizeLine ∧ Nx (upd H4 D (.lst (acc ++ [y]))) else Nx H3) := by
  have re : ∀ i, (List.replicate (i + 1) true).map V.bl = (List.replicate i true).map V.bl ++ [V.bl true] := fun i => by rw [List.replicate_succ', List.map_append]; rfl
  refine lc_it wk (fun i H' => Ex H H' ∧ H' D = some (.lst ((List.replicate i true).map V.bl))) ⟨Ex.new nD, upd_same⟩ (fun i H' _ h => hG H' h.1) ?_ fun H' h => hd H' h.1 h.2
  rintro i x H1 H2 hi ⟨e1, h1⟩ ⟨rfl, z⟩
  refine hs i x _ hi e1 z _ _ fun H4 e4 => ⟨_, e4 _ _ h1, small1000 (by rw [List.length_map, List.length_replicate]; omega), ?_, by rw [upd_same, re]⟩
  intro b o hb
  rw [upd_ne (ne_of_none hb nD)]
  exact e4 _ _ (e1 _ _ hb)
/-- a dict comprehension over a list that stays, nothing else written: Iv by the turn and the rows so far -/
theorem dcM_iv {K : PySem.W.Frag} {w : World} {a : Addr} {xs : List V} {g : TG} {tt : TT} {tk tv : TE} {vs : List Nat} {σ : St} {H : Hp} {D : Addr} {Qd : Hp → Prop} (Iv : Nat → List Mv → Prop) (nD : H D = none) (sD : (D == sysModules) = false) (hl : SqL K H a xs) (hn : xs.length ≤ 900) (h0 : Iv 0 [])
    (hs : ∀ i x H' ks, xs[i]? = some x → Ex H H' → Iv i ks → ∀ (N : V → V → Hp → Prop) (M : Hp → Prop), (∀ k y z H5, Ex H' H5 → KeyV K H5 k y → k.depth ≤ 8 → Iv (i + 1) (pM ks k y z) → N y z H5) → (∀ H5, Ex H' H5 → Iv (i + 1) ks → M H5) →
      g x (wipe σ vs) H' fun σ2 H2 => wipe σ2 vs = wipe σ vs ∧ tt σ2 H2 fun b H3 => if b = true then tk σ2 H3 fun y H4 => tv σ2 H4 fun z H5 => N y z H5 else M H3)
    (hd : ∀ H' ks, Ex H H' → Mx K H' w D ks → H' D = some (mxo D w ks) → Iv xs.length ks → ks.length ≤ xs.length → Qd H') :
    ∃ W : Nat → Nat → Hp → Prop, (∃ m, W 0 m (upd H D (mxo D w []))) ∧ ∀ i m H, W i m H →
      ((Itl K a).stop i H ∧ Qd H) ∨ ((Itl K a).go i H ∧ ∃ Nx : Hp → Prop, (∀ H', Nx H' → ∃ m', m' < m ∧ W (i + 1) m' H') ∧ ∀ x H', (Itl K a).yld i H x H' → g x (wipe σ vs) H' fun σ2 H2 => wipe σ2 vs = wipe σ vs ∧ tt σ2 H2 fun b H3 =>
        if b = true then tk σ2 H3 fun y H4 => tv σ2 H4 fun z H5 => ∃ (ks : List Mv) (k : NestedKey), Mx K H5 w D ks ∧ H5 D = some (mxo D w ks) ∧ KeyV K H5 k y ∧ k.depth ≤ 8 ∧ ks.length < 1000 ∧ Nx (upd H5 D (mxo D w (pM ks k y z))) else Nx H3) := by
  refine dcM_list (xs := xs) (fun i H' => ∃ ks, Ex H H' ∧ Mx K H' w D ks ∧ H' D = some (mxo D w ks) ∧ Iv i ks ∧ ks.length ≤ i) ⟨[], Ex.new nD, Mx.new sD, upd_same, h0, Nat.le_refl _⟩ (fun i H' _ h => ?_) ?_ fun H' h => ?_
  · obtain ⟨ks, e, _⟩ := h
    exact Evl.ex_l e hl
  · rintro i x H1 hx ⟨ks, e1, m1, o1, iv, le⟩
    have lt := (List.getElem?_eq_some_iff.mp hx).1
    refine hs i x H1 ks hx e1 iv _ _ (fun k y z H5 e5 hk dk iv' => ?_) fun H5 e5 iv' => ⟨ks, Ex.trans e1 e5, m1.mono e5, e5 _ _ o1, iv', Nat.le_succ_of_le le⟩
    refine ⟨ks, k, m1.mono e5, e5 _ _ o1, hk, dk, by omega, pM ks k y z, ?_, (m1.mono e5).put (e5 _ _ o1) hk dk (by omega), upd_same, iv', Nat.le_trans pM_len (by omega)⟩
    intro b o hb
    rw [upd_ne (ne_of_none hb nD)]
    exact e5 _ _ (e1 _ _ hb)
  · obtain ⟨ks, e1, m1, o1, iv, le⟩ := h
    exact hd H' ks e1 m1 o1 iv le
theorem vM_some {ks : List Mv} {k : NestedKey} : (vM ks k).isSome = true ↔ k ∈ ks.map (·.1) := by
  constructor
  · intro h
    unfold vM at h
    rw [Option.isSome_map, List.find?_isSome] at h
    obtain ⟨p, hp, e⟩ := h
    exact List.mem_map.mpr ⟨p, hp, of_decide_eq_true e⟩
  · intro h
    rcases hv : (vM ks k).isSome with _ | _
    · exact absurd h (vM_none (by rw [hv]; simp))
    · rfl
theorem pM_new {ks : List Mv} {k : NestedKey} {kv y : V} (h : k ∉ ks.map (·.1)) : pM ks k kv y = ks ++ [(k, kv, y)] := by
  unfold pM
  rw [if_neg (fun z => h (vM_some.mp z))]
theorem vM_at {mv : List Mv} (n : (mv.map (·.1)).Nodup) {j : Nat} {r : Mv} (h : mv[j]? = some r) : vM mv r.1 = some r.2.2 := by
  induction mv generalizing j with
  | nil => simp at h
  | cons x mv ih =>
    rw [List.map_cons, List.nodup_cons] at n
    unfold vM
    rw [List.find?_cons]
    cases j with
    | zero =>
      obtain rfl : x = r := Option.some.inj h
      rw [decide_eq_true rfl]
      rfl
    | succ j =>
      have hj : mv[j]? = some r := by simpa using h
      have ne : x.1 ≠ r.1 := fun z => n.1 (by rw [z]; exact List.mem_map.mpr ⟨r, List.mem_of_getElem? hj, rfl⟩)
      rw [decide_eq_false ne]
      exact ih n.2 hj
theorem lst_ty {K : PySem.W.Frag} {H : Hp} {a : Addr} {xs : List V} (h : SqL K H a xs) : TyX K H (.ref a) (.type "list") := by
  rcases h with (h | ⟨o, h⟩) | ⟨o, its, n, h1, h2, _⟩
  · exact .base (.lst h)
  · exact .base (.frz h)
  · exact .kList h1 h2
theorem all_rep : ∀ n : Nat, (List.replicate n true).all id = true
  | 0 => rfl
  | n + 1 => by
    rw [List.replicate_succ, List.all_cons, all_rep n]
    rfl
end L2.Vf
namespace L2.Vf.K14
open PySem PySem.Spec PyProof.Rows
open Evl (Ex Ev EvT EvL EvA)
def top (i : Nat) : Stmt := PySem.Challenge.pw_movedactors_k14_values_of_terms.main.body.getD i (.Pass ⟨0, 0, 0, 0⟩)
abbrev s__law_source : Stmt := top 21
abbrev s__law_pick : Stmt := top 22
section
variable {P : Program} {w : World} {K : PySem.W.Frag} {mg : Str → Option Value} {base : Heap} {f : Addr} {fd : FuncData}
abbrev n__law_source : List Str := ["_law_script", "_law_mixed", "_law_cell"]
theorem sc__law_source : FnScope n__law_source ["_law_script"] (defScope s__law_source) := ⟨rfl, rfl, rfl, by decide +kernel, rfl, by decide +kernel, by decide +kernel⟩
theorem ok_source (F : Fun K "_law_source" "_law_source" s__law_source f fd) (m_int : mg "int" = none) (m_abs : mg "abs" = none) :
    FnOk P w K mg base CX0 1 f fd ["_law_script"] (spSource K) := by
  refine F.ok sc__law_source (fun vs H Q E h => ?_) (fun cdv A outer s H vs Q E hr h => ?_)
  · obtain ⟨a, ns, rfl, _⟩ := h
    rfl
  obtain ⟨a, ns, rfl, hS, hl, q⟩ := h
  refine ⟨_, (pss_cons (ps_set (i := 1) sc__law_source.nd rfl (.inl rfl) pe_int)
  (pss_cons (ps_for PassesOwn.never rfl (pi_list (pv 0)) (pg_name (i := 2) sc__law_source.nd rfl (.inl rfl))
  (pss_one (ps_set (i := 1) sc__law_source.nd rfl (.inl rfl) (pe_op op_mod (pe_callTy call_int1 (by rfl) m_int (by decide +kernel) (pa_cons (pe_op op_add (pe_op op_add (pe_op op_mul (pv 1) pe_int) (pe_op op_mul (pv 2) pe_int)) pe_int) pa_nil)) pe_int))))
  (pss_one (ps_ret (pe_disp (pps_cons pe_str (pe_lc (own := [("_law_cell", 2)]) (g := gName 2) (tt := _) rfl sc__law_source.nd (pi_list (pe_revL (pv 0))) (blkOk_by (N := n__law_source) (sc := defScope s__law_source) (by decide +kernel)) (fun _ _ _ _ _ => (pg_name (i := 2) sc__law_source.nd rfl (.inl rfl))) (fun _ _ _ _ _ => pts_nil) (fun _ _ _ _ _ => (pe_callB call_abs (by rfl) m_abs (by decide +kernel) (pa_cons (pv 2) pa_nil)))) (pps_cons pe_str pe_int (pps_cons pe_str (pv 1) (pps_cons pe_str pe_int pps_nil)))) rfl rfl (fun z => by cases z) (by decide)))))), ?_⟩
  refine ⟨_, rfl, a, rfl, ⟨_, hS⟩, for_list (K := K) (a := a) (xs := ns.map V.int) (fun i σ H2 => ∃ (m : Int) (y2 : Option V),
    σ = [some (.ref a), some (.int m), y2] ∧ H2 = H) ⟨11, none, rfl, rfl⟩ (fun i σ H2 _ h => by obtain ⟨_, _, _, rfl⟩ := h; exact hS) ?_ ?_⟩
  · rintro i x σ H2 hi ⟨m, y2, rfl, rfl⟩
    obtain ⟨z, rfl⟩ : ∃ z, x = V.int z := by
      rw [List.getElem?_map] at hi
      cases e : ns[i]? with
      | none => rw [e] at hi; cases hi
      | some z => rw [e] at hi; exact ⟨z, (Option.some.inj hi).symm⟩
    refine ⟨_, rfl, _, _, rfl, rfl, .inr (by decide), _, rfl, _, _, rfl, rfl, .inr (by decide), ?_⟩
    exact ⟨_, _, rfl, rfl, _, _, rfl, rfl, .inl ⟨_, rfl, _, _, rfl, rfl, (by show (0 : Int) < 2147483629; decide), _, _, rfl, rfl⟩⟩
  · rintro σ H2 ⟨m, y2, rfl, rfl⟩
    intro p np
    have e1 : Ex H2 (upd H2 p (.dK [])) := Ex.new np
    refine ⟨_, rfl, a, _, rfl, Evl.ex_l e1 hS, fun r nr => ⟨r, rfl, ⟨_, SqL.of upd_same⟩, fun D nD => ?_⟩⟩
    have e2 : Ex (upd H2 p (.dK [])) (upd (upd H2 p (.dK [])) r (.lst (ns.map V.int).reverse)) := Ex.new nr
    have nD1 : (upd H2 p (.dK [])) D = none := Evl.fresh_back e2 nD
    have npD : p ≠ D := fun z => by
      rw [← z, upd_same] at nD1
      cases nD1
    have hr0 : (upd (upd H2 p (.dK [])) r (.lst (ns.map V.int).reverse)) r = some (.lst (ns.map V.int).reverse) := upd_same
    refine lc_list (K := K) (a := r) (xs := (ns.map V.int).reverse) (fun i H3 => ∃ ys : List Int, ys.length = i ∧ H3 D = some (.lst (ys.map V.int)) ∧ Ex (upd (upd H2 p (.dK [])) r (.lst (ns.map V.int).reverse)) H3)
      ⟨[], rfl, upd_same, Ex.new nD⟩ (fun i H3 _ h => by obtain ⟨_, _, _, e⟩ := h; exact SqL.of (e _ _ hr0)) ?_ ?_
    · rintro i x H3 hi ⟨ys, rfl, hD, e⟩
      have hil := (List.getElem?_eq_some_iff.mp hi).1
      rw [List.length_reverse, List.length_map] at hil
      obtain ⟨z, rfl⟩ : ∃ z, x = V.int z := by
        obtain ⟨z, _, hz⟩ := List.mem_map.mp (List.mem_reverse.mp (List.mem_of_getElem? hi))
        exact ⟨z, hz.symm⟩
      refine ⟨rfl, ?_⟩
      refine ⟨_, rfl, _, rfl, ys.map V.int, hD, small1000 (by rw [List.length_map]; omega), ys ++ [if z < 0 then -z else z], by simp, ?_, e.mut nD⟩
      rw [upd_same, List.map_append]
      rfl
    · rintro H3 ⟨ys, hy, hD, e⟩
      have hp3 : H3 p = some (.dK []) := e _ _ (e2 _ _ upd_same)
      refine ⟨_, rfl, hp3, [(.inr "cells", .ref D), (.inr "left", .int 1), (.inr "mixed", .int m), (.inr "turn", .int 0)], rfl, (by show (4 : Nat) ≤ 15; decide), ?_⟩
      have ncH : H2 D = none := Evl.fresh_back e1 nD1
      refine q p D _ np ncH (((e1.trans e2).trans e).mut np) ⟨ys, 1, m, 0, ?_, ?_⟩
      · rw [upd_same]
        rfl
      · rw [upd_ne npD.symm]
        exact hD
abbrev n__law_pick : List Str := ["_law_source_here", "_law_many", "_law_left", "_law_turn", "_law_mixed"]
theorem sc__law_pick : FnScope n__law_pick ["_law_source_here", "_law_many"] (defScope s__law_pick) := ⟨rfl, rfl, rfl, by decide +kernel, rfl, by decide +kernel, by decide +kernel⟩
theorem ok_pick (F : Fun K "_law_pick" "_law_pick" s__law_pick f fd) (m_int : mg "int" = none) :
    FnOk P w K mg base CX0 1 f fd ["_law_source_here", "_law_many"] spPick := by
  refine F.ok sc__law_pick (fun vs H Q E h => ?_) (fun cdv A outer s H vs Q E hr h => ?_)
  · obtain ⟨p, c, n, rfl, _⟩ := h
    rfl
  obtain ⟨p, c, n, rfl, hS, h1, h2, q⟩ := h
  have hu := hu_of hr
  refine ⟨_, (pss_cons (ps_while PassesOwn.never (PW.pt (pw_and (pt_cmpR op_gt (pv 1) pe_int (nomark _)) (pw_and (pt_cmpR op_lt (pe_dget hu (pv 0) pe_str (fun _ _ => rfl)) pe_int (nomark _)) (pw_and1 (pt_cmpR (op_neDK (K := K) hr.units) (pe_dget hu (pv 0) pe_str (fun _ _ => rfl)) (pe_lst pa_nil) (nomark _))))))
  (pss_one (ps_dput hu (pv 0) pe_str (pe_bm0 PySem.F.plainAttrs_list PySem.F.slot_list_pop PySem.F.type_list_pop mt_pop (pe_dget hu (pv 0) pe_str (fun _ _ => rfl))) rfl)))
  (pss_cons (ps_set (i := 2) sc__law_pick.nd rfl (.inl rfl) (pe_dget hu (pv 0) pe_str (fun _ _ => rfl)))
  (pss_cons (ps_if (pt_cmpR op_lt (pv 1) pe_int (nomark _))
  (pss_one (ps_ret pe_int))
  pss_nil)
  (pss_cons (ps_if (pt_cmpR op_gt (pv 2) pe_int (nomark _))
  (pss_cons (ps_dput hu (pv 0) pe_str (pe_op op_fdivN (pv 2) (pv 1)) rfl)
  (pss_one (ps_ret (pe_op op_mod (pe_callTy call_int1 (by rfl) m_int (by decide +kernel) (pa_cons (pv 2) pa_nil)) (pv 1)))))
  pss_nil)
  (pss_cons (ps_dput hu (pv 0) pe_str (pe_op op_add (pe_dget hu (pv 0) pe_str (fun _ _ => rfl)) pe_int) rfl)
  (pss_cons (ps_set (i := 3) sc__law_pick.nd rfl (.inl rfl) (pe_dget hu (pv 0) pe_str (fun _ _ => rfl)))
  (pss_cons (ps_set (i := 4) sc__law_pick.nd rfl (.inl rfl) (pe_op op_mod (pe_callTy call_int1 (by rfl) m_int (by decide +kernel) (pa_cons (pe_op op_add (pe_dget hu (pv 0) pe_str (fun _ _ => rfl)) (pe_op op_mul (pv 3) pe_int)) pa_nil)) pe_int))
  (pss_cons (ps_set (i := 4) sc__law_pick.nd rfl (.inl rfl) (pe_op op_mod (pe_callTy call_int1 (by rfl) m_int (by decide +kernel) (pa_cons (pe_op op_add (pe_op op_mul (pv 4) (pv 4)) (pe_op op_mul (pv 3) pe_int)) pa_nil)) pe_int))
  (pss_one (ps_ret (pe_op op_mod (pe_callTy call_int1 (by rfl) m_int (by decide +kernel) (pa_cons (pe_op op_fdivN (pv 4) pe_int) pa_nil)) (pv 1)))))))))))), ?_⟩
  obtain ⟨cells, l, m, t, hp, hc⟩ := hS
  have npc : p ≠ c := ne_of hp hc (by intro z; cases z)
  refine while_e (fun σ H2 => σ = [some (.ref p), some (.int n), none, none, none] ∧ But [p, c] H H2 ∧
      ∃ (cells : List Int) (l : Int), H2 p = some (.dK (sKv c l m t)) ∧ H2 c = some (.lst (cells.map V.int)))
    (fun σ H2 => σ = [some (.ref p), some (.int n), none, none, none] ∧ But [p, c] H H2 ∧
      ∃ (cells : List Int) (l : Int), H2 p = some (.dK (sKv c l m t)) ∧ H2 c = some (.lst (cells.map V.int))) (fun _ H2 => lenAt c H2)
    ⟨rfl, But.refl, cells, l, hp, hc⟩ ?_ ?_ ?_
  · rintro σ H2 ⟨rfl, b, xs, y, hp2, hc2⟩
    refine ⟨_, rfl, _, _, rfl, rfl, _, rfl, ite2 (fun _ => ?_) (fun _ => iteF ⟨rfl, b, xs, y, hp2, hc2⟩)⟩
    refine ⟨_, rfl, p, _, rfl, g_left hp2, _, _, rfl, rfl, _, rfl, ite2 (fun _ => ?_) (fun _ => iteF ⟨rfl, b, xs, y, hp2, hc2⟩)⟩
    refine ⟨_, rfl, p, _, rfl, g_cells hp2, (by show (0 : Nat) ≤ sizeLine; exact Nat.zero_le _), fun r nr => ⟨.list (xs.map .int), .list [], .lst (SqL.of (Ex.new nr _ _ hc2)) (dp_ints xs), .lst (SqL.of upd_same) .nil, shaped_ints xs, rfl, _, rfl, ?_⟩⟩
    have hp3 : (upd H2 r (.lst [])) p = some (.dK (sKv c y m t)) := Ex.new nr _ _ hp2
    have hc3 : (upd H2 r (.lst [])) c = some (.lst (xs.map V.int)) := Ex.new nr _ _ hc2
    have b3 : But [p, c] H (upd H2 r (.lst [])) := b.trans (But.of (Ex.new nr))
    cases xs with
    | nil => exact iteF ⟨rfl, b3, [], y, hp3, hc3⟩
    | cons z0 zs =>
      refine ite2 (fun _ => ?_) (fun z => (z (show (!PyData.eqv (.list ((z0 :: zs).map .int)) (.list [])) = true by simp [PyData.eqv, PyData.eqvAll])).elim)
      obtain ⟨v, hv⟩ : ∃ v, (z0 :: zs)[(z0 :: zs).length - 1]? = some v := ⟨_, List.getElem?_eq_getElem (by simp)⟩
      refine ⟨_, rfl, p, _, rfl, g_cells hp3, .inl ⟨rfl, _, SqL.of hc3⟩, c, _, .int v, rfl, rfl, hc3, by rw [List.length_map, List.getElem?_map, hv]; rfl, ?_⟩
      have hp4 : (upd (upd H2 r (.lst [])) c (.lst ((z0 :: zs).map V.int).dropLast)) p = some (.dK (sKv c y m t)) := by
        rw [upd_ne npc]
        exact hp3
      refine ⟨_, rfl, p, _, rfl, p_left hp4 v, ⟨rfl, But.by fun x o x1 hx => ?_, (z0 :: zs).dropLast, v, upd_same, ?_⟩, ?_⟩
      · rw [upd_ne (fun z => x1 (by rw [z]; simp)), upd_ne (fun z => x1 (by rw [z]; simp))]
        exact b3.get x1 hx
      · rw [upd_ne npc.symm, upd_same, List.map_dropLast]
      · unfold lenAt
        rw [upd_ne npc.symm, upd_same, hc2]
        show ((z0 :: zs).map V.int).dropLast.length < ((z0 :: zs).map V.int).length
        rw [List.length_dropLast, List.length_map]
        simp
  · rintro σ H2 ⟨rfl, b, xs, y, hp2, hc2⟩
    have n0 : n ≠ 0 := by omega
    have put : ∀ {y m2 t2 : Int} {o : HO}, o = .dK (sKv c y m2 t2) → Src (upd H2 p o) p c ∧ But [p, c] H (upd H2 p o) := by
      rintro y m2 t2 o rfl
      refine ⟨⟨xs, y, m2, t2, upd_same, ?_⟩, But.by fun x o x1 hx => ?_⟩
      · rw [upd_ne npc.symm]
        exact hc2
      · rw [upd_ne (fun z => x1 (by rw [z]; simp))]
        exact b.get x1 hx
    refine ⟨_, rfl, p, _, rfl, g_left hp2, _, rfl, _, _, rfl, rfl, _, rfl, ite2 (fun z => ?_) (fun z => ?_)⟩
    · have z1 : n < 2 := of_decide_eq_true z
      exact q 0 H2 (Int.le_refl 0) (by omega) ⟨xs, y, m, t, hp2, hc2⟩ b
    refine ⟨_, rfl, _, _, rfl, rfl, _, rfl, ite2 (fun _ => ?_) (fun _ => ?_)⟩
    · refine ⟨_, rfl, _, rfl, _, _, rfl, rfl, ⟨n0, by omega⟩, _, rfl, p, _, rfl, p_left hp2 _, ?_⟩
      refine ⟨_, rfl, .inl ⟨_, rfl, _, rfl, _, _, rfl, rfl, (by show 0 < n; omega), ?_⟩⟩
      obtain ⟨s1, s2⟩ := put (y := y.fdiv n) (m2 := m) (t2 := t) rfl
      exact q _ _ (Int.emod_nonneg _ n0) (Int.emod_lt_of_pos _ (by omega)) s1 s2
    · refine ⟨_, rfl, p, _, rfl, g_turn hp2, _, _, rfl, rfl, _, rfl, p, _, rfl, p_turn hp2 _, ?_⟩
      have hp3 : (upd H2 p (.dK (sKv c y m (t + 1)))) p = some (.dK (sKv c y m (t + 1))) := upd_same
      refine ⟨_, rfl, p, _, rfl, g_turn hp3, _, rfl, p, _, rfl, g_mixed hp3, _, rfl, _, _, rfl, rfl, .inr (by decide), _, _, rfl, rfl, .inl ⟨_, rfl, _, _, rfl, rfl, (by show (0 : Int) < 998244353; decide), ?_⟩⟩
      have m1 := Int.emod_nonneg (m + (t + 1) * 104729) (by decide : (998244353 : Int) ≠ 0)
      have m2 := Int.emod_lt_of_pos (m + (t + 1) * 104729) (by decide : (0 : Int) < 998244353)
      refine ⟨_, rfl, _, rfl, _, _, rfl, rfl, .inl ⟨by omega, by omega⟩, _, rfl, _, _, rfl, rfl, .inr (by decide), _, _, rfl, rfl, .inl ⟨_, rfl, _, _, rfl, rfl, (by show (0 : Int) < 2147483647; decide), ?_⟩⟩
      refine ⟨_, rfl, _, _, rfl, rfl, ⟨by decide, by decide⟩, .inl ⟨_, rfl, _, rfl, _, _, rfl, rfl, (by show 0 < n; omega), ?_⟩⟩
      obtain ⟨s1, s2⟩ := put (y := y) (m2 := m) (t2 := t + 1) rfl
      exact q _ _ (Int.emod_nonneg _ n0) (Int.emod_lt_of_pos _ (by omega)) s1 s2
  · rintro σ H2 Q1 Q2 mono ⟨v1, e1, i1, j1, e2, e3, k1, e4, z⟩
    refine ⟨v1, e1, i1, j1, e2, e3, k1, e4, ?_⟩
    cases k1 with
    | false => exact mono _ _ z
    | true =>
      obtain ⟨v1, e1, a1, w1, e2, g1, i1, j1, e3, e4, k1, e5, z⟩ := z
      refine ⟨v1, e1, a1, w1, e2, g1, i1, j1, e3, e4, k1, e5, ?_⟩
      cases k1 with
      | false => exact mono _ _ z
      | true =>
        obtain ⟨v2, e6, p2, ys, e7, g2, sz, z⟩ := z
        refine ⟨v2, e6, p2, ys, e7, g2, sz, fun r nr => ?_⟩
        obtain ⟨d1, d2, x1, x2, x3, x4, k2, x5, z⟩ := z r nr
        exact ⟨d1, d2, x1, x2, x3, x4, k2, x5, mono _ _ z⟩
end
end L2.Vf.K14
namespace L2.Vf.K14
open PySem PySem.Spec PyProof.Rows
open Evl (Ex Ev EvT EvL EvA)
abbrev s__law_of : Stmt := top 23
abbrev s__law_word : Stmt := top 24
/-- a def that may be called by its name -/
def Has (P : Program) (w : World) (K : PySem.W.Frag) (mg : Str → Option Value) (base : Heap) (k : Nat) (x : Str) (ps : List Str) (sp : Sp) : Prop :=
  ∃ f fd, FnOk P w K mg base CX0 k f fd ps sp ∧ mg x = some (.ref f) ∧ PySem.W.keepIn K (.ref f) = true ∧ Binds K fd ps []
section
variable {P : Program} {w : World} {K : PySem.W.Frag} {mg : Str → Option Value} {base : Heap} {f : Addr} {fd : FuncData}
abbrev n__law_of : List Str := ["_law_source_here", "_law_some"]
theorem sc__law_of : FnScope n__law_of ["_law_source_here", "_law_some"] (defScope s__law_of) := ⟨rfl, rfl, rfl, by decide +kernel, rfl, by decide +kernel, by decide +kernel⟩
theorem ok_of (F : Fun K "_law_of" "_law_of" s__law_of f fd) (m_len : mg "len" = none) (hp : Has P w K mg base 1 "_law_pick" ["_law_source_here", "_law_many"] spPick) :
    FnOk P w K mg base CX0 2 f fd ["_law_source_here", "_law_some"] (spOf K) := by
  obtain ⟨f1, fd1, G__law_pick, m__law_pick, k__law_pick, b__law_pick⟩ := hp
  refine F.ok sc__law_of (fun vs H Q E h => ?_) (fun cdv A outer s H vs Q E hr h => ?_)
  · obtain ⟨p, c, a, xs, rfl, _⟩ := h
    rfl
  obtain ⟨p, c, a, xs, rfl, hS, hx, h1, h2, q⟩ := h
  refine ⟨_, (pss_one (ps_ret (pe_ix (ix_listK (K := K)) (pv 1) (pe_call G__law_pick (hr.mono (by omega)) (by rfl) m__law_pick k__law_pick b__law_pick .nil pass0 (pa_cons (pv 0) (pa_cons (pe_callB (call_lenK (K := K)) (by rfl) m_len PySem.boot_len (pa_cons (pv 1) pa_nil)) pa_nil))) (fun _ _ => rfl)))), ?_⟩
  refine ⟨_, rfl, _, rfl, _, rfl, a, xs, rfl, .inl (Evl.ex_l hide_ex hx), p, c, _, rfl, hS, (by omega), (by omega), fun r H1 r0 rn S1 b1 => ?_⟩
  obtain ⟨j, rfl⟩ := Int.eq_ofNat_of_zero_le r0
  obtain ⟨v, hv⟩ : ∃ v, xs[j]? = some v := ⟨_, List.getElem?_eq_getElem (by omega)⟩
  exact ⟨a, xs, (j : Int), v, rfl, rfl, Evl.ex_l (Ex.trans b1 hide_ex) hx, atI_nat hv, q j v H1 hv S1 b1⟩
/-- a written word's sign -/
def okC (c : Nat) : Bool := (decide (97 ≤ c) && decide (c ≤ 122)) || (decide (48 ≤ c) && decide (c ≤ 57))
/-- a letter -/
def letC (c : Nat) : Bool := decide (97 ≤ c) && decide (c ≤ 122)
/-- such signs, a letter ahead -/
def wOk : List Nat → Bool
  | [] => true
  | c :: r => letC c && (c :: r).all okC
theorem wOk_all : ∀ {cs : List Nat}, wOk cs = true → cs.all okC = true
  | [], _ => rfl
  | _ :: _, h => (Bool.and_eq_true_iff.mp h).2
theorem wOk_snoc : ∀ {cs : List Nat} {ch : Nat}, wOk cs = true → okC ch = true → (cs = [] → letC ch = true) → wOk (cs ++ [ch]) = true
  | [], ch, _, h, g => by
    show (letC ch && [ch].all okC) = true
    rw [g rfl]
    simp [h]
  | c :: r, ch, hw, h, _ => by
    obtain ⟨h1, h2⟩ := Bool.and_eq_true_iff.mp hw
    show (letC c && ((c :: r) ++ [ch]).all okC) = true
    rw [h1, List.all_append, h2]
    simp [h]
def WordOk (n : Nat) (x : Str) : Prop := 1 ≤ x.length ∧ x.length ≤ n ∧ wOk x.cps.toList = true
def spWord : Sp := fun vs H Q _ => ∃ (p c : Addr) (n : Nat), vs = [.ref p, .int (n : Int)] ∧ Src H p c ∧ 1 ≤ n ∧ n ≤ 12 ∧ ∀ x H', WordOk n x → Src H' p c → But [p, c] H H' → Q (.str x) H'
theorem join_signs : ∀ cs : List Nat, Txt.join "" (cs.map fun c => (⟨#[c]⟩ : Str)) = ⟨cs.toArray⟩
  | [] => rfl
  | [c] => rfl
  | c :: e :: r => by
    have ih := join_signs (e :: r)
    have z : ∀ l : List Str, Txt.join "" l = Str.join "" l := fun l => StrLaws.glued_eq_join "" l
    rw [z] at ih ⊢
    show (⟨#[c]⟩ : Str) ++ ("" : Str) ++ Str.join "" ((e :: r).map fun c => (⟨#[c]⟩ : Str)) = _
    rw [ih]
    show (⟨(#[c] ++ #[]) ++ (e :: r).toArray⟩ : Str) = ⟨(c :: e :: r).toArray⟩
    simp
theorem letters_at : ∀ j, j < 26 → (("abcdefghijklmnopqrstuvwxyz" : Str).cps.toList[j]?).any okC = true := by decide +kernel
theorem lets_at : ∀ j, j < 26 → (("abcdefghijklmnopqrstuvwxyz" : Str).cps.toList[j]?).all letC = true := by decide +kernel
theorem signs_at : ∀ j, j < 36 → ((("abcdefghijklmnopqrstuvwxyz" : Str) ++ ("0123456789" : Str)).cps.toList[j]?).any okC = true := by decide +kernel
theorem any_get {o : Option Nat} (h : o.any okC = true) : ∃ ch, o = some ch ∧ okC ch = true := by
  cases o with
  | none => cases h
  | some ch => exact ⟨ch, rfl, h⟩
abbrev n__law_word : List Str := ["_law_source_here", "_law_most", "_law_letters", "_law_signs", "_law_lap"]
theorem sc__law_word : FnScope n__law_word ["_law_source_here", "_law_most"] (defScope s__law_word) := ⟨rfl, rfl, rfl, by decide +kernel, rfl, by decide +kernel, by decide +kernel⟩
theorem ok_word (F : Fun K "_law_word" "_law_word" s__law_word f fd) (m_range : mg "range" = none) (hp : Has P w K mg base 1 "_law_pick" ["_law_source_here", "_law_many"] spPick) :
    FnOk P w K mg base CX0 2 f fd ["_law_source_here", "_law_most"] spWord := by
  obtain ⟨f1, fd1, G__law_pick, m__law_pick, k__law_pick, b__law_pick⟩ := hp
  refine F.ok sc__law_word (fun vs H Q E h => ?_) (fun cdv A outer s H vs Q E hr h => ?_)
  · obtain ⟨p, c, n, rfl, _⟩ := h
    rfl
  obtain ⟨p, c, n, rfl, hS, h1, h2, q⟩ := h
  have hu := hu_of hr
  refine ⟨_, (pss_cons (ps_par (i := 2) (j := 3) (by rfl) sc__law_word.nd rfl rfl (by decide) rfl rfl (pa_cons pe_str (pa_cons (pe_lst pa_nil) pa_nil)) (by rfl))
  (pss_cons (ps_for PassesOwn.never rfl (pi_range1 rfl m_range (pa_cons (pe_op op_add pe_int (pe_call G__law_pick (hr.mono (by omega)) (by rfl) m__law_pick k__law_pick b__law_pick .nil pass0 (pa_cons (pv 0) (pa_cons (pv 1) pa_nil)))) pa_nil)) (pg_name (i := 4) sc__law_word.nd rfl (.inl rfl))
  (pss_one (ps_expr (pe_bm PySem.F.plainAttrs_list PySem.F.slot_list_append PySem.F.type_list_append mt_append (pv 3) (pa_cons (pe_ifExp (pt_cmpR op_eq (pv 4) pe_int (nomark _)) (pe_ix ix_str (pv 2) (pe_call G__law_pick (hr.mono (by omega)) (by rfl) m__law_pick k__law_pick b__law_pick .nil pass0 (pa_cons (pv 0) (pa_cons pe_int pa_nil))) (fun _ _ => rfl)) (pe_ix ix_str (pe_op op_add_str (pv 2) pe_str) (pe_call G__law_pick (hr.mono (by omega)) (by rfl) m__law_pick k__law_pick b__law_pick .nil pass0 (pa_cons (pv 0) (pa_cons pe_int pa_nil))) (fun _ _ => rfl))) pa_nil)))))
  (pss_one (ps_ret (pe_join pe_str (pv 3)))))), ?_⟩
  refine ⟨(by show (0 : Nat) ≤ sizeLine; exact Nat.zero_le _), fun r nr => ⟨_, _, rfl, ?_⟩⟩
  have nS : r ∉ [p, c] := hS.kn.off nr
  have S1 : Src (upd H r (.lst [])) p c := hS.ex (Ex.new nr)
  refine ⟨_, rfl, _, rfl, p, c, (n : Int), rfl, S1, (by omega), (by omega), fun m H2 m0 mn S2 b2 => ⟨_, _, rfl, rfl, _, rfl, (by omega), (by omega), ?_⟩⟩
  have hr2 : H2 r = some (.lst []) := b2.get nS upd_same
  have b02 : But [p, c] H H2 := (But.of (Ex.new nr)).trans b2
  refine for_range (lo := 0) (n := (1 + m).toNat) (fun i σ H' => ∃ (y4 : Option V) (cs : List Nat), σ = [some (.ref p), some (.int (n : Int)), some (.str "abcdefghijklmnopqrstuvwxyz"), some (.ref r), y4] ∧ Src H' p c ∧
    H' r = some (.lst (cs.map fun ch => V.str ⟨#[ch]⟩)) ∧ cs.length = i ∧ wOk cs = true ∧ But [p, c] H H') ⟨none, [], rfl, S2, hr2, rfl, rfl, b02⟩ ?_ ?_
  · rintro i σ H3 hi ⟨y4, cs, rfl, S3, hr3, rfl, hok, b3⟩
    refine ⟨_, rfl, .inl ⟨rfl, _, SqL.of hr3⟩, _, rfl, rfl, _, rfl, ite2 (fun _ => ?_) (fun z0 => ?_)⟩
    · refine ⟨_, rfl, _, rfl, p, c, 26, rfl, S3, (by decide), (by decide), fun k H4 k0 kn S4 b4 => ?_⟩
      obtain ⟨j, rfl⟩ := Int.eq_ofNat_of_zero_le k0
      obtain ⟨ch, h3, h4⟩ := any_get (letters_at j (by omega))
      have hr4 := b4.get nS hr3
      refine ⟨_, _, ch, rfl, rfl, (by decide +kernel), atI_nat h3, r, _, _, rfl, rfl, hr4, small1000 (by rw [List.length_map]; omega), ?_⟩
      have hl := lets_at j (by omega)
      rw [h3] at hl
      refine ⟨_, cs ++ [ch], rfl, S4.off nS, ?_, by simp, wOk_snoc hok h4 (fun _ => hl), (b3.trans b4).mut nr⟩
      rw [upd_same, List.map_append]
      rfl
    · refine ⟨_, rfl, _, _, rfl, rfl, (by decide +kernel), _, rfl, p, c, 36, rfl, S3, (by decide), (by decide), fun k H4 k0 kn S4 b4 => ?_⟩
      obtain ⟨j, rfl⟩ := Int.eq_ofNat_of_zero_le k0
      obtain ⟨ch, h3, h4⟩ := any_get (signs_at j (by omega))
      have hr4 := b4.get nS hr3
      refine ⟨_, _, ch, rfl, rfl, (by decide +kernel), atI_nat h3, r, _, _, rfl, rfl, hr4, small1000 (by rw [List.length_map]; omega), ?_⟩
      refine ⟨_, cs ++ [ch], rfl, S4.off nS, ?_, by simp, wOk_snoc hok h4 (fun z1 => absurd (by rw [z1]; rfl) z0), (b3.trans b4).mut nr⟩
      rw [upd_same, List.map_append]
      rfl
  · rintro σ H3 ⟨y4, cs, rfl, S3, hr3, hl, hok, b3⟩
    have hsz : ∀ l : List Nat, ((l.map fun ch => (⟨#[ch]⟩ : Str)).map (·.length)).sum = l.length := fun l => by
      induction l with
      | nil => rfl
      | cons a l ih =>
        rw [List.map_cons, List.map_cons, List.sum_cons, ih, List.length_cons]
        show 1 + l.length = l.length + 1
        omega
    refine ⟨⟨_, rfl⟩, _, rfl, _, r, cs.map (fun ch => (⟨#[ch]⟩ : Str)), rfl, rfl, .inl (SqL.of (by rw [hr3, List.map_map]; rfl)), ?_, ?_⟩
    · rw [hsz, List.length_map]
      show cs.length + cs.length * 0 ≤ _
      omega
    · rw [join_signs]
      refine q _ H3 ⟨?_, ?_, ?_⟩ S3 b3
      · show 1 ≤ cs.toArray.size
        simp
        omega
      · show cs.toArray.size ≤ n
        simp
        omega
      · show wOk cs.toArray.toList = true
        simpa using hok
end
end L2.Vf.K14
namespace L2.Vf.K14
open PySem PySem.Spec PyProof.Rows
open Evl (Ex Ev EvT EvL EvA)
abbrev s__law_primitives : Stmt := top 25
/-- a primitive's name, a primitive -/
def NameOk (x : Str) : Prop := WordOk 4 x ∨ ∃ n : Nat, n < 10 ∧ x = ("primitive" : Str) ++ ((toString (n : Int) : String) : Str)
/-- a name that is made so early, or a word -/
def NameAt (i : Nat) (x : Str) : Prop := WordOk 4 x ∨ ∃ n : Nat, n < i ∧ n < 10 ∧ x = ("primitive" : Str) ++ ((toString (n : Int) : String) : Str)
theorem NameAt.ok {i : Nat} {x : Str} (h : NameAt i x) : NameOk x := by
  rcases h with h | ⟨n, _, h1, h2⟩
  · exact .inl h
  · exact .inr ⟨n, h1, h2⟩
theorem NameAt.mono {i j : Nat} {x : Str} (h : NameAt i x) (l : i ≤ j) : NameAt j x := by
  rcases h with h | ⟨n, h0, h1, h2⟩
  · exact .inl h
  · exact .inr ⟨n, by omega, h1, h2⟩
theorem prim_inj : ∀ n, n < 10 → ∀ m, m < 10 → (("primitive" : Str) ++ ((toString ((n : Nat) : Int) : String) : Str)) = (("primitive" : Str) ++ ((toString ((m : Nat) : Int) : String) : Str)) → n = m := by decide +kernel
theorem prim_len : ∀ n, n < 10 → 9 ≤ (("primitive" : Str) ++ ((toString ((n : Nat) : Int) : String) : Str)).length := by decide +kernel
theorem prim_new {qs : List (Str × Nat)} (h : ∀ q ∈ qs, NameAt qs.length q.1 ∧ q.2 ≤ 2) (l : qs.length < 10) : (("primitive" : Str) ++ ((toString ((qs.length : Nat) : Int) : String) : Str)) ∉ qs.map (·.1) := fun z => by
  obtain ⟨q, hq, e⟩ := List.mem_map.mp z
  rcases (h q hq).1 with w | ⟨n, h0, h1, h2⟩
  · have := w.2.1
    have := prim_len qs.length l
    rw [← e] at this
    omega
  · rw [e] at h2
    have := prim_inj _ l _ h1 h2
    omega
def primD (q : Str × Nat) : PyData := .tuple [.str q.1, .int (q.2 : Int)]
/-- a row of the list -/
abbrev RowP (K : PySem.W.Frag) (S : List Addr) (H : Hp) (t : Addr) (q : Str × Nat) : Prop := SqT K (hide S H) t [.str q.1, .int (q.2 : Int)]
def spPrims (K : PySem.W.Frag) : Sp := fun vs H Q _ => ∃ (p c : Addr), vs = [.ref p] ∧ Src H p c ∧
  ∀ v H' (qs : List (Str × Nat)), (∃ ts a, v = .ref a ∧ SqL K (hide [p, c] H') a (ts.map V.ref) ∧ Paired (RowP K [p, c] H') ts qs) → 3 ≤ qs.length → qs.length ≤ 5 → (∀ q ∈ qs, NameOk q.1 ∧ q.2 ≤ 2) → (qs.map (·.1)).Nodup → Src H' p c → But [p, c] H H' → Q v H'
theorem cut_counts (a b : Nat) (ha : a ≤ 2) (hb : b ≤ 2) : ∀ k : Int, 0 ≤ k → k < 3 → ∃ ms : List Nat, cutV [V.int 0, V.int 1, V.int 2, V.int (a : Int), V.int (b : Int)] none (some (3 + k)) = ms.map (fun (m : Nat) => V.int (m : Int)) ∧ 3 ≤ ms.length ∧ ms.length ≤ 5 ∧ ∀ m ∈ ms, m ≤ 2 := by
  intro k k0 k3
  obtain rfl | rfl | rfl : k = 0 ∨ k = 1 ∨ k = 2 := by omega
  · exact ⟨[0, 1, 2], rfl, by decide, by decide, by decide⟩
  · exact ⟨[0, 1, 2, a], rfl, by simp, by simp, by simp; omega⟩
  · exact ⟨[0, 1, 2, a, b], rfl, by simp, by simp, by simp; omega⟩
theorem pairedTo {α β : Type} {F G : α → β → Prop} {l₁ : List α} {l₂ : List β} (h : Paired F l₁ l₂) (g : ∀ a b, F a b → G a b) : Paired G l₁ l₂ := by
  induction h with
  | nil => exact .nil
  | cons h _ ih => exact .cons (g _ _ h) ih
def PrimInv (K : PySem.W.Frag) (H : Hp) (p c r r2 r3 : Addr) (ms : List Nat) (i : Nat) (σ : St) (H' : Hp) : Prop := ∃ (y3 y4 : Option V) (ts : List Addr) (qs : List (Str × Nat)),
  σ = [some (.ref p), some (.ref r), some (.ref r2), y3, y4, none, none] ∧ Src H' p c ∧ H' r = some (.lst (ts.map V.ref)) ∧ H' r3 = some (.lst (ms.map (fun (m : Nat) => V.int (m : Int)))) ∧
  Paired (RowP K [p, c] H') ts qs ∧ qs.length = i ∧ ((∀ q ∈ qs, NameAt i q.1 ∧ q.2 ≤ 2) ∧ (qs.map (·.1)).Nodup) ∧ But [p, c] H H'
theorem prim_fin {K : PySem.W.Frag} {H : Hp} {p c r r2 r3 : Addr} {ms : List Nat} {y : Str} {m : Nat} {ts : List Addr} {qs : List (Str × Nat)} {D : Ends} {H6 : Hp} (nr : H r = none) (nS : r ∉ [p, c]) (ner : r ≠ r3) (hy : NameAt (qs.length + 1) y) (hyn : y ∉ qs.map (·.1)) (hm : m ≤ 2) (l5 : qs.length < 5)
    (S6 : Src H6 p c) (hr : H6 r = some (.lst (ts.map V.ref))) (hr3 : H6 r3 = some (.lst (ms.map (fun (m : Nat) => V.int (m : Int))))) (hp : Paired (RowP K [p, c] H6) ts qs) (hq : (∀ q ∈ qs, NameAt qs.length q.1 ∧ q.2 ≤ 2) ∧ (qs.map (·.1)).Nodup) (b : But [p, c] H H6)
    (hD : ∀ σ' H', PrimInv K H p c r r2 r3 ms (qs.length + 1) σ' H' → D.nx σ' H') :
    tDrop (tBM K "list" rAppend (tVar 1) (tCons (tTup (tCons (tVar 4) (tCons (tVar 3) tNil))) tNil)) D [some (.ref p), some (.ref r), some (.ref r2), some (.int (m : Int)), some (.str y), none, none] H6 := by
  have lts : ts.length = qs.length := Paired.length hp
  refine ⟨_, rfl, .inl ⟨rfl, _, SqL.of hr⟩, _, rfl, _, rfl, (by show (2 : Nat) ≤ sizeLine; decide), fun t nt => ⟨r, _, _, rfl, rfl, Ex.new nt _ _ hr, small1000 (by rw [List.length_map]; omega), hD _ _ ?_⟩⟩
  have hr' := (Ex.new (o := .tup [.str y, .int (m : Int)]) nt) _ _ hr
  refine ⟨_, _, ts ++ [t], qs ++ [(y, m)], rfl, (S6.ex (Ex.new nt)).off nS, ?_, ?_, ?_, by simp, ⟨fun q h => ?_, ?_⟩, (b.trans (But.of (Ex.new nt))).mut nr⟩
  · rw [upd_same, List.map_append]
    rfl
  · rw [upd_ne ner.symm]
    exact Ex.new nt _ _ hr3
  · refine Paired.snoc (pairedTo hp fun t q h => sqt_off hr' (Evl.ex_t (But.of (Ex.new nt)) h)) ?_
    exact sqt_off hr' (sqt_new S6.kn nt)
  · rcases List.mem_append.mp h with z | z
    · exact ⟨(hq.1 q z).1.mono (Nat.le_succ _), (hq.1 q z).2⟩
    · rw [List.mem_singleton.mp z]
      exact ⟨hy, hm⟩
  · rw [List.map_append, List.nodup_append]
    refine ⟨hq.2, by simp, fun u hu v hv e => ?_⟩
    rw [e, List.mem_singleton.mp hv] at hu
    exact hyn hu
theorem pair_drop {α β : Type} {F : α → β → Prop} {l₁ : List α} {l₂ : List β} (h : Paired F l₁ l₂) : ∀ j, Paired F (l₁.drop j) (l₂.drop j) := by
  induction h with
  | nil => intro j; simp; exact .nil
  | cons h t ih =>
    intro j
    cases j with
    | zero => exact .cons h t
    | succ j => exact ih j
theorem pair_take {α β : Type} {F : α → β → Prop} {l₁ : List α} {l₂ : List β} (h : Paired F l₁ l₂) : ∀ j, Paired F (l₁.take j) (l₂.take j) := by
  induction h with
  | nil => intro j; simp; exact .nil
  | cons h _ ih =>
    intro j
    cases j with
    | zero => exact .nil
    | succ j => exact .cons h (ih j)
theorem pair_app {α β : Type} {F : α → β → Prop} {l₁ m₁ : List α} {l₂ m₂ : List β} (h : Paired F l₁ l₂) (g : Paired F m₁ m₂) : Paired F (l₁ ++ m₁) (l₂ ++ m₂) := by
  induction h with
  | nil => exact g
  | cons h _ ih => exact .cons h ih
theorem num_len : ∀ n, n < 10 → (Str.ofString (toString ((n : Nat) : Int))).length ≤ 2 := by decide +kernel
theorem pair_at {α β : Type} {F : α → β → Prop} {l₁ : List α} {l₂ : List β} (h : Paired F l₁ l₂) {i : Nat} {a : α} (ha : l₁[i]? = some a) : ∃ b, l₂[i]? = some b ∧ F a b := by
  induction h generalizing i with
  | nil => simp at ha
  | @cons x y xs ys hxy _ ih =>
    cases i with
    | zero =>
      obtain rfl := Option.some.inj ha
      exact ⟨y, rfl, hxy⟩
    | succ i =>
      obtain ⟨b, h1, h2⟩ := ih (i := i) (by simpa using ha)
      exact ⟨b, by simpa using h1, h2⟩
section
variable {P : Program} {w : World} {K : PySem.W.Frag} {mg : Str → Option Value} {base : Heap} {f : Addr} {fd : FuncData}
abbrev n__law_primitives : List Str := ["_law_source_here", "_law_found", "_law_counts", "_law_count", "_law_name", "_law_turn", "_law_one"]
theorem sc__law_primitives : FnScope n__law_primitives ["_law_source_here"] (defScope s__law_primitives) := ⟨rfl, rfl, rfl, by decide +kernel, rfl, by decide +kernel, by decide +kernel⟩
theorem ok_primitives (F : Fun K "_law_primitives" "_law_primitives" s__law_primitives f fd) (m_len : mg "len" = none) (m_str : mg "str" = none) (hp : Has P w K mg base 1 "_law_pick" ["_law_source_here", "_law_many"] spPick)
    (hw : Has P w K mg base 2 "_law_word" ["_law_source_here", "_law_most"] spWord) : FnOk P w K mg base CX0 3 f fd ["_law_source_here"] (spPrims K) := by
  obtain ⟨f1, fd1, G__law_pick, m__law_pick, k__law_pick, b__law_pick⟩ := hp
  obtain ⟨f2, fd2, G__law_word, m__law_word, k__law_word, b__law_word⟩ := hw
  refine F.ok sc__law_primitives (fun vs H Q E h => ?_) (fun cdv A outer s H vs Q E hr h => ?_)
  · obtain ⟨p, c, rfl, _⟩ := h
    rfl
  obtain ⟨p, c, rfl, hS, q⟩ := h
  have hu := hu_of hr
  refine ⟨_, (pss_cons (ps_par (i := 1) (j := 2) (by rfl) sc__law_primitives.nd rfl rfl (by decide) rfl rfl (pa_cons (pe_lst pa_nil) (pa_cons (pe_lst (pa_cons pe_int (pa_cons pe_int (pa_cons pe_int (pa_cons (pe_call G__law_pick (hr.mono (by omega)) (by rfl) m__law_pick k__law_pick b__law_pick .nil pass0 (pa_cons (pv 0) (pa_cons pe_int pa_nil))) (pa_cons (pe_call G__law_pick (hr.mono (by omega)) (by rfl) m__law_pick k__law_pick b__law_pick .nil pass0 (pa_cons (pv 0) (pa_cons pe_int pa_nil))) pa_nil)))))) pa_nil)) (by rfl))
  (pss_cons (ps_for PassesOwn.never rfl (pi_list (pe_slice (sl_listK (K := K)) (pv 2) po_none (po_some (pe_op op_add pe_int (pe_call G__law_pick (hr.mono (by omega)) (by rfl) m__law_pick k__law_pick b__law_pick .nil pass0 (pa_cons (pv 0) (pa_cons pe_int pa_nil))))))) (pg_name (i := 3) sc__law_primitives.nd rfl (.inl rfl))
  (pss_cons (ps_set (i := 4) sc__law_primitives.nd rfl (.inl rfl) (pe_call G__law_word (hr.mono (by omega)) (by rfl) m__law_word k__law_word b__law_word .nil pass0 (pa_cons (pv 0) (pa_cons pe_int pa_nil))))
  (pss_cons (ps_if (pt_cmpR (op_in_seqK (K := K)) (pv 4) (pe_lc (own := [("_law_one", 6)]) (g := gName 6) (tt := _) rfl sc__law_primitives.nd (pi_list (pv 1)) (blkOk_by (N := n__law_primitives) (sc := defScope s__law_primitives) (by decide +kernel)) (fun _ _ _ _ _ => (pg_name (i := 6) sc__law_primitives.nd rfl (.inl rfl))) (fun _ _ _ _ _ => pts_nil) (fun _ _ _ _ _ => (pe_ix (ix_tupK (K := K)) (pv 6) pe_int (fun _ _ => rfl)))) (by rfl))
  (pss_one (ps_set (i := 4) sc__law_primitives.nd rfl (.inl rfl) (pe_op op_add_str pe_str (pe_callTy call_str_int (by rfl) m_str (by decide +kernel) (pa_cons (pe_callB (call_lenK (K := K)) (by rfl) m_len PySem.boot_len (pa_cons (pv 1) pa_nil)) pa_nil)))))
  pss_nil)
  (pss_one (ps_expr (pe_bm PySem.F.plainAttrs_list PySem.F.slot_list_append PySem.F.type_list_append mt_append (pv 1) (pa_cons (pe_tup (pa_cons (pv 4) (pa_cons (pv 3) pa_nil))) pa_nil)))))))
  (pss_cons (ps_set (i := 5) sc__law_primitives.nd rfl (.inl rfl) (pe_call G__law_pick (hr.mono (by omega)) (by rfl) m__law_pick k__law_pick b__law_pick .nil pass0 (pa_cons (pv 0) (pa_cons (pe_callB (call_lenK (K := K)) (by rfl) m_len PySem.boot_len (pa_cons (pv 1) pa_nil)) pa_nil))))
  (pss_one (ps_ret (pe_op op_cat (pe_slice (sl_listK (K := K)) (pv 1) (po_some (pv 5)) po_none) (pe_slice (sl_listK (K := K)) (pv 1) po_none (po_some (pv 5))))))))), ?_⟩
  refine ⟨(by show (0 : Nat) ≤ sizeLine; exact Nat.zero_le _), fun r nr => ⟨_, rfl, p, c, 3, rfl, hS.ex (Ex.new nr), (by decide), (by decide), fun k1 H1 k10 k13 S1 b1 => ⟨_, rfl, p, c, 3, rfl, S1, (by decide), (by decide), fun k2 H2 k20 k23 S2 b2 =>
    ⟨(by show (5 : Nat) ≤ sizeLine; decide), fun r2 nr2 => ⟨_, _, rfl, ?_⟩⟩⟩⟩⟩
  obtain ⟨a1, rfl⟩ := Int.eq_ofNat_of_zero_le k10
  obtain ⟨a2, rfl⟩ := Int.eq_ofNat_of_zero_le k20
  have nS : r ∉ [p, c] := hS.kn.off nr
  have hr2 : H2 r = some (.lst []) := b2.get nS (b1.get nS upd_same)
  have nS2 : r2 ∉ [p, c] := S2.kn.off nr2
  have b02 : But [p, c] H H2 := ((But.of (Ex.new nr)).trans b1).trans b2
  refine ⟨_, rfl, _, rfl, p, c, 3, rfl, S2.ex (Ex.new nr2), (by decide), (by decide), fun k3 H3 k30 k33 S3 b3 => ?_⟩
  have hr22 : (upd H2 r2 (.lst [V.int 0, V.int 1, V.int 2, V.int (a1 : Int), V.int (a2 : Int)])) r2 = some (.lst [V.int 0, V.int 1, V.int 2, V.int (a1 : Int), V.int (a2 : Int)]) := upd_same
  have hr23 := b3.get nS2 hr22
  have hr3 : H3 r = some (.lst []) := b3.get nS (Ex.new nr2 _ _ hr2)
  have b03 : But [p, c] H H3 := (b02.trans (But.of (Ex.new nr2))).trans b3
  refine ⟨_, _, rfl, rfl, _, rfl, r2, _, rfl, SqL.of hr23, fun r3 nr3 => ⟨r3, rfl, ⟨_, SqL.of upd_same⟩, ?_⟩⟩
  obtain ⟨ms, ems, m3, m5, m2⟩ := cut_counts a1 a2 (by omega) (by omega) k3 k30 k33
  rw [ems]
  have nS3 : r3 ∉ [p, c] := S3.kn.off nr3
  have ner : r ≠ r3 := ne_of_none hr3 nr3
  refine for_list (K := K) (a := r3) (xs := ms.map (fun (m : Nat) => V.int (m : Int))) (PrimInv K H p c r r2 r3 ms)
    ⟨none, none, [], [], rfl, S3.ex (Ex.new nr3), Ex.new nr3 _ _ hr3, upd_same, .nil, rfl, ⟨(fun q z => by cases z), List.nodup_nil⟩, b03.trans (But.of (Ex.new nr3))⟩
    (fun i σ H' _ h => by obtain ⟨_, _, _, _, _, _, _, h, _⟩ := h; exact SqL.of h) ?_ ?_
  · rintro i x σ H4 hi ⟨y3, y4, ts, qs, rfl, S4, hr4, hr34, hp, rfl, hq, b4⟩
    obtain ⟨m, hm, rfl⟩ : ∃ m, m ∈ ms ∧ x = V.int ((m : Nat) : Int) := by
      obtain ⟨m, h1, h2⟩ := List.mem_map.mp (List.mem_of_getElem? hi)
      exact ⟨m, h1, h2.symm⟩
    have lq5 : qs.length < 5 := by
      have := (List.getElem?_eq_some_iff.mp hi).1
      rw [List.length_map] at this
      omega
    have lts : ts.length = qs.length := Paired.length hp
    refine ⟨_, rfl, p, c, 4, rfl, S4, (by decide), (by decide), fun x0 H5 hx0 S5 b5 => ?_⟩
    have hr5 := b5.get nS hr4
    have hr35 := b5.get nS3 hr34
    have hp5 : Paired (RowP K [p, c] H5) ts qs := pairedTo hp fun t q h => Evl.ex_t b5 h
    have b05 := b4.trans b5
    have nq : ∀ q ∈ qs, q.2 ≤ 2 := fun q h => (hq.1 q h).2
    refine ⟨_, rfl, _, rfl, r, rfl, ⟨_, SqL.of hr5⟩, fun D nD => ?_⟩
    have ex5 : ∀ {H'' : Hp}, Ex H5 H'' → H'' r = some (.lst (ts.map V.ref)) := fun e => e _ _ hr5
    refine lc_list (K := K) (a := r) (xs := ts.map V.ref) (fun i H' => H' D = some (.lst ((qs.take i).map fun q => V.str q.1)) ∧ Ex H5 H') ⟨upd_same, Ex.new nD⟩ (fun i H' _ h => SqL.of (ex5 h.2)) ?_ ?_
    · rintro i x1 H6 hi1 ⟨hD, e6⟩
      obtain ⟨t, ht, rfl⟩ : ∃ t, ts[i]? = some t ∧ x1 = V.ref t := by
        rw [List.getElem?_map] at hi1
        cases e : ts[i]? with
        | none => rw [e] at hi1; cases hi1
        | some t => rw [e] at hi1; exact ⟨t, rfl, (Option.some.inj hi1).symm⟩
      obtain ⟨q, hqi, hrow⟩ := pair_at hp5 ht
      refine ⟨rfl, ?_⟩
      refine ⟨_, rfl, t, _, 0, .str q.1, rfl, rfl, Evl.ex_t (Ex.trans hide_ex e6) hrow, rfl, _, hD, small1000 (by rw [List.length_map, List.length_take]; omega), ?_, e6.mut nD⟩
      rw [upd_same, List.take_add_one, hqi]
      simp
    · rintro H6 ⟨hD, e6⟩
      have S6 := S5.ex e6
      have hp6 : Paired (RowP K [p, c] H6) ts qs := pairedTo hp5 fun t q h => Evl.ex_t (But.of e6) h
      have b06 := b05.trans (But.of e6)
      refine ⟨D, _, rfl, .inl (SqL.of hD), rfl, ?_, _, rfl, ite2 (fun _ => ?_) (fun znot => ?_)⟩
      · rw [List.all_map]
        exact List.all_eq_true.mpr fun q _ => rfl
      · have hl : (ts.map V.ref).length = qs.length := by rw [List.length_map, lts]
        refine ⟨_, rfl, r, _, rfl, .inl (SqL.of (e6 _ _ hr5)), _, rfl, ?_, _, _, rfl, rfl, ?_, ?_⟩
        · rw [hl]
          exact Nat.lt_of_le_of_lt (Nat.log2_le_self _) (by simp; omega)
        · rw [hl]
          have := num_len qs.length (by omega)
          have e9 : ("primitive" : Str).length = 9 := by decide +kernel
          rw [e9, sizeLine_eq]
          omega
        · refine prim_fin nr nS ner (.inr ⟨qs.length, by omega, by omega, ?_⟩) ?_ (m2 m hm) lq5 S6 (e6 _ _ hr5) (e6 _ _ hr35) hp6 hq b06 fun _ _ h => h
          · rw [hl]
          · rw [hl]
            exact prim_new hq.1 (by omega)
      · refine prim_fin nr nS ner (.inl hx0) (fun zin => znot ?_) (m2 m hm) lq5 S6 (e6 _ _ hr5) (e6 _ _ hr35) hp6 hq b06 fun _ _ h => h
        show inV (V.str x0) _ = true
        rw [List.length_map, lts, List.take_length]
        unfold inV
        rw [List.any_eq_true]
        obtain ⟨q0, h1, h2⟩ := List.mem_map.mp zin
        exact ⟨V.str q0.1, List.mem_map.mpr ⟨q0, h1, rfl⟩, by rw [h2]; exact decide_eq_true rfl⟩
  · rintro σ H4 ⟨y3, y4, ts, qs, rfl, S4, hr4, hr34, hp, hl, hq, b4⟩
    have lts : ts.length = qs.length := Paired.length hp
    rw [List.length_map] at hl
    refine ⟨_, rfl, _, rfl, r, _, rfl, .inl (SqL.of hr4), p, c, _, rfl, S4, (by rw [List.length_map]; omega), (by rw [List.length_map]; omega), fun k H5 k0 kn S5 b5 => ?_⟩
    obtain ⟨j, rfl⟩ := Int.eq_ofNat_of_zero_le k0
    have hr5 := b5.get nS hr4
    have hp5 : Paired (RowP K [p, c] H5) ts qs := pairedTo hp fun t q h => Evl.ex_t b5 h
    rw [List.length_map] at kn
    refine ⟨_, rfl, _, rfl, _, rfl, r, _, rfl, SqL.of hr5, fun t1 n1 => ?_⟩
    have hr6 := (Ex.new (o := .lst (cutV (ts.map V.ref) (some (j : Int)) none)) n1) _ _ hr5
    refine ⟨_, rfl, _, rfl, _, rfl, r, _, rfl, SqL.of hr6, fun t2 n2 => ⟨t1, t2, _, _, rfl, rfl, Ex.new n2 _ _ upd_same, upd_same, ?_, fun t3 n3 => ?_⟩⟩
    · have z1 := cutV_length (ts.map V.ref) (some (j : Int)) none
      have z2 := cutV_length (ts.map V.ref) none (some (j : Int))
      rw [List.length_map] at z1 z2
      rw [sizeLine_eq]
      omega
    · have hj : j ≤ (ts.map V.ref).length := by rw [List.length_map]; omega
      rw [cut_from hj, cut_to hj]
      have ex : Ex H5 (upd (upd (upd H5 t1 (.lst ((ts.map V.ref).drop j))) t2 (.lst ((ts.map V.ref).take j))) t3 (.lst ((ts.map V.ref).drop j ++ (ts.map V.ref).take j))) := by
        rw [cut_from hj] at n2
        rw [cut_from hj, cut_to hj] at n3
        exact ((Ex.new n1).trans (Ex.new n2)).trans (Ex.new n3)
      have hp7 : Paired (RowP K [p, c] _) ts qs := pairedTo hp5 fun t q h => Evl.ex_t (But.of ex) h
      rw [cut_from hj, cut_to hj] at n3
      rw [cut_from hj] at n2
      have k5 : Kn [p, c] (upd (upd H5 t1 (.lst ((ts.map V.ref).drop j))) t2 (.lst ((ts.map V.ref).take j))) := S5.kn.ex ((Ex.new n1).trans (Ex.new n2))
      refine q _ _ (qs.drop j ++ qs.take j) ⟨ts.drop j ++ ts.take j, t3, rfl, SqL.of (by rw [hide_new k5 n3, List.map_append, List.map_drop, List.map_take]), pair_app (pair_drop hp7 j) (pair_take hp7 j)⟩ ?_ ?_ (fun x hx => ?_) ?_ (S5.ex ex) ((b4.trans b5).trans (But.of ex))
      · simp
        omega
      · simp
        omega
      · rcases List.mem_append.mp hx with z | z
        · exact ⟨(hq.1 x (List.mem_of_mem_drop z)).1.ok, (hq.1 x (List.mem_of_mem_drop z)).2⟩
        · exact ⟨(hq.1 x (List.mem_of_mem_take z)).1.ok, (hq.1 x (List.mem_of_mem_take z)).2⟩
      · have e : (qs.take j ++ qs.drop j).map (·.1) = qs.map (·.1) := by rw [List.take_append_drop]
        have nd := hq.2
        rw [← e, List.map_append] at nd
        rw [List.map_append]
        exact (List.perm_append_comm.nodup_iff).mp nd
end
end L2.Vf.K14
namespace L2.Vf.K14
open PySem PySem.Spec PyProof.Rows
open Evl (Ex Ev EvT EvL EvA)
abbrev s__law_variables : Stmt := top 26
/-- the names that two words and a number make -/
def menuK (x y : Str) (n : Nat) : List NestedKey := [.text x, .tup [.text x], .tup [.text x, .text y], .tup [.text x, .num (n : Int)], .tup [.text x, .num (n : Int), .text y], .tup [.text x, .text y, .num (n : Int), .num (10 ^ 20)]]
def VarOk (i : Nat) (k : NestedKey) : Prop := (∃ (x y : Str) (n : Nat), WordOk 3 x ∧ WordOk 3 y ∧ n < 12 ∧ k ∈ menuK x y n) ∨ ∃ j, j < i ∧ k = .tup [.text "variable", .num ((j : Nat) : Int)]
def spVars (K : PySem.W.Frag) : Sp := fun vs H Q _ => ∃ (p c : Addr) (n : Nat), vs = [.ref p, .int (n : Int)] ∧ Src H p c ∧ n ≤ 20 ∧
  ∀ v H' ks, kl K [p, c] ks v H' → ks.length = n → ks.Nodup → (∀ k ∈ ks, VarOk n k) → Src H' p c → But [p, c] H H' → Q v H'
theorem VarOk.mono {i j : Nat} {k : NestedKey} (h : VarOk i k) (l : i ≤ j) : VarOk j k := by
  rcases h with h | ⟨m, h1, h2⟩
  · exact .inl h
  · exact .inr ⟨m, by omega, h2⟩
theorem word_lay {n : Nat} {x : Str} (h : WordOk n x) : PyData.strOk x = true := by
  obtain ⟨_, _, h⟩ := h
  replace h := wOk_all h
  unfold PyData.strOk
  rw [← Array.all_toList, List.all_eq_true]
  intro c hc
  have z := List.all_eq_true.mp h c hc
  unfold okC at z
  simp only [Bool.or_eq_true, Bool.and_eq_true, decide_eq_true_eq] at z
  exact decide_eq_true (by omega)
theorem var_word : PyData.strOk "variable" = true := by decide +kernel
theorem var_lay {i : Nat} {k : NestedKey} (h : VarOk i k) : k.data.canLay0 = true ∧ k.data.depth ≤ 1 := by
  rcases h with ⟨x, y, n, hx, hy, _, hk⟩ | ⟨j, _, rfl⟩
  · have lx := word_lay hx
    have ly := word_lay hy
    unfold menuK at hk
    simp only [List.mem_cons, List.not_mem_nil, or_false] at hk
    rcases hk with rfl | rfl | rfl | rfl | rfl | rfl <;> simp [NestedKey.data, NestedKey.datas, PyData.canLay0, PyData.canLayAll0, PyData.depth, PyData.depthAll, lx, ly]
  · simp [NestedKey.data, NestedKey.datas, PyData.canLay0, PyData.canLayAll0, PyData.depth, PyData.depthAll, var_word]
theorem keys_lay {i : Nat} : ∀ {ks : List NestedKey}, (∀ k ∈ ks, VarOk i k) → PyData.canLayAll0 (NestedKey.datas ks) = true ∧ PyData.depthAll (NestedKey.datas ks) ≤ 1
  | [], _ => by simp [NestedKey.datas, PyData.canLayAll0, PyData.depthAll]
  | k :: ks, h => by
    obtain ⟨h1, h2⟩ := var_lay (h k List.mem_cons_self)
    obtain ⟨h3, h4⟩ := keys_lay fun q hq => h q (List.mem_cons_of_mem _ hq)
    simp only [NestedKey.datas, PyData.canLayAll0, PyData.depthAll, h1, h3, Bool.and_self, true_and]
    omega
/-- the name that is made where the drawn one is known is new -/
theorem var_new {i : Nat} {ks : List NestedKey} (h : ∀ k ∈ ks, VarOk i k) : NestedKey.tup [.text "variable", .num ((i : Nat) : Int)] ∉ ks := fun z => by
  rcases h _ z with ⟨x, y, n, hx, _, _, hk⟩ | ⟨j, hj, e⟩
  · have l8 : ("variable" : Str).length = 8 := by decide +kernel
    have l3 : ("variable" : Str) ≠ x := fun e => by
      have := hx.2.1
      rw [← e, l8] at this
      omega
    unfold menuK at hk
    simp only [List.mem_cons, List.not_mem_nil, or_false] at hk
    rcases hk with e | hk
    · cases e
    rcases hk with e | e | e | e | e <;> injection e with e <;> injection e with e1 e2 <;> injection e1 with e1 <;> exact l3 e1
  · injection e with e
    injection e with _ e
    injection e with e _
    injection e with e
    omega
theorem not_in {ks : List NestedKey} {k : NestedKey} (h : (!(NestedKey.datas ks).any fun z => PyData.eqv z k.data) = true) : k ∉ ks := fun z => by
  have y : ((NestedKey.datas ks).any fun z => PyData.eqv z k.data) = true := by
    rw [datas_map]
    exact List.any_eq_true.mpr ⟨k.data, List.mem_map.mpr ⟨k, z, rfl⟩, eqv_key k⟩
  rw [y] at h
  cases h
section
variable {P : Program} {w : World} {K : PySem.W.Frag} {mg : Str → Option Value} {base : Heap} {f : Addr} {fd : FuncData}
abbrev n__law_variables : List Str := ["_law_source_here", "_law_many", "_law_found", "_law_k", "_law_name", "_law_other", "_law_number", "_law_some", "_law_one"]
theorem sc__law_variables : FnScope n__law_variables ["_law_source_here", "_law_many"] (defScope s__law_variables) := ⟨rfl, rfl, rfl, by decide +kernel, rfl, by decide +kernel, by decide +kernel⟩
theorem ok_variables (F : Fun K "_law_variables" "_law_variables" s__law_variables f fd) (m_range : mg "range" = none) (hp : Has P w K mg base 1 "_law_pick" ["_law_source_here", "_law_many"] spPick)
    (hw : Has P w K mg base 2 "_law_word" ["_law_source_here", "_law_most"] spWord) : FnOk P w K mg base CX0 3 f fd ["_law_source_here", "_law_many"] (spVars K) := by
  obtain ⟨f1, fd1, G__law_pick, m__law_pick, k__law_pick, b__law_pick⟩ := hp
  obtain ⟨f2, fd2, G__law_word, m__law_word, k__law_word, b__law_word⟩ := hw
  refine F.ok sc__law_variables (fun vs H Q E h => ?_) (fun cdv A outer s H vs Q E hr h => ?_)
  · obtain ⟨p, c, n, rfl, _⟩ := h
    rfl
  obtain ⟨p, c, n, rfl, hS, hn, q⟩ := h
  have hu := hu_of hr
  refine ⟨_, (pss_cons (ps_set (i := 2) sc__law_variables.nd rfl (.inl rfl) (pe_lst pa_nil))
  (pss_cons (ps_for PassesOwn.never rfl (pi_range1 rfl m_range (pa_cons (pv 1) pa_nil)) (pg_name (i := 3) sc__law_variables.nd rfl (.inl rfl))
  (pss_cons (ps_par3 (i := 4) (j := 5) (l := 6) (by rfl) sc__law_variables.nd rfl rfl rfl (by decide) (by decide) (by decide) rfl rfl rfl (pa_cons (pe_call G__law_word (hr.mono (by omega)) (by rfl) m__law_word k__law_word b__law_word .nil pass0 (pa_cons (pv 0) (pa_cons pe_int pa_nil))) (pa_cons (pe_call G__law_word (hr.mono (by omega)) (by rfl) m__law_word k__law_word b__law_word .nil pass0 (pa_cons (pv 0) (pa_cons pe_int pa_nil))) (pa_cons (pe_call G__law_pick (hr.mono (by omega)) (by rfl) m__law_pick k__law_pick b__law_pick .nil pass0 (pa_cons (pv 0) (pa_cons pe_int pa_nil))) pa_nil))) (by rfl))
  (pss_cons (ps_set (i := 7) sc__law_variables.nd rfl (.inl rfl) (pe_lst (pa_cons (pv 4) (pa_cons (pe_tup (pa_cons (pv 4) pa_nil)) (pa_cons (pe_tup (pa_cons (pv 4) (pa_cons (pv 5) pa_nil))) (pa_cons (pe_tup (pa_cons (pv 4) (pa_cons (pv 6) pa_nil))) (pa_cons (pe_tup (pa_cons (pv 4) (pa_cons (pv 6) (pa_cons (pv 5) pa_nil)))) (pa_cons (pe_tup (pa_cons (pv 4) (pa_cons (pv 5) (pa_cons (pv 6) (pa_cons (pe_op op_pow pe_int pe_int) pa_nil))))) pa_nil))))))))
  (pss_cons (ps_set (i := 8) sc__law_variables.nd rfl (.inl rfl) (pe_ix (ix_listK (K := K)) (pv 7) (pe_call G__law_pick (hr.mono (by omega)) (by rfl) m__law_pick k__law_pick b__law_pick .nil pass0 (pa_cons (pv 0) (pa_cons pe_int pa_nil))) (fun _ _ => rfl)))
  (pss_one (ps_expr (pe_bm PySem.F.plainAttrs_list PySem.F.slot_list_append PySem.F.type_list_append mt_append (pv 2) (pa_cons (pe_ifExp (pt_cmpR (op_notInDK (K := K) (units65 hr)) (pv 8) (pv 2) (by rfl)) (pv 8) (pe_tup (pa_cons pe_str (pa_cons (pv 3) pa_nil)))) pa_nil))))))))
  (pss_one (ps_ret (pv 2))))), ?_⟩
  refine ⟨(by show (0 : Nat) ≤ sizeLine; exact Nat.zero_le _), fun r nr => ?_⟩
  have nS : r ∉ [p, c] := hS.kn.off nr
  refine ⟨_, rfl, _, rfl, (by omega), (by omega), for_range (lo := 0) (n := ((n : Nat) : Int).toNat) (fun i σ H' => ∃ (y3 y4 y5 y6 y7 y8 : Option V) (ks : List NestedKey) (xs : List V),
    σ = [some (.ref p), some (.int (n : Int)), some (.ref r), y3, y4, y5, y6, y7, y8] ∧ Src H' p c ∧ H' r = some (.lst xs) ∧ KeyVs K (hide [p, c] H') ks xs ∧ ks.length = i ∧ ks.Nodup ∧ (∀ k ∈ ks, VarOk i k) ∧ But [p, c] H H')
    ⟨none, none, none, none, none, none, [], [], rfl, hS.ex (Ex.new nr), upd_same, .nil, rfl, List.nodup_nil, (fun k z => by cases z), But.of (Ex.new nr)⟩ ?_ ?_⟩
  · rintro i σ H2 hi ⟨y3, y4, y5, y6, y7, y8, ks, xs, rfl, S2, hr2, hk2, rfl, hnd, hok, b2⟩
    refine ⟨_, rfl, p, c, 3, rfl, S2, (by decide), (by decide), fun x1 H3 hx1 S3 b3 => ⟨_, rfl, p, c, 3, rfl, S3, (by decide), (by decide), fun x2 H4 hx2 S4 b4 => ⟨_, rfl, p, c, 12, rfl, S4, (by decide), (by decide), fun m H5 m0 m12 S5 b5 => ⟨_, _, _, rfl, ?_⟩⟩⟩⟩
    obtain ⟨m, rfl⟩ := Int.eq_ofNat_of_zero_le m0
    have b25 := (b3.trans b4).trans b5
    have hr5 := b25.get nS hr2
    have hk5 := hk2.but b25
    have kn5 := S5.kn
    have t4 : ∀ {te : TE} {σ : St} {y : Str}, EvP te σ H5 (is (.str y)) → EvP te σ H5 (kq K [p, c] (.text y)) := fun h => evp_kC h fun _ => .text _
    have t6 : ∀ {te : TE} {σ : St} {y : Int}, EvP te σ H5 (is (.int y)) → EvP te σ H5 (kq K [p, c] (.num y)) := fun h => evp_kC h fun _ => .num _
    refine set_go (P := klF K [p, c] H5 (menuK x1 x2 m)) (evp_kL (evs_kq (t4 (evp_var rfl)) (evs_kq (evp_kT kn5 (evs_kq (t4 (evp_var rfl)) evs_nil) (Nat.le_of_ble_eq_true rfl))
      (evs_kq (evp_kT kn5 (evs_kq (t4 (evp_var rfl)) (evs_kq (t4 (evp_var rfl)) evs_nil)) (Nat.le_of_ble_eq_true rfl)) (evs_kq (evp_kT kn5 (evs_kq (t4 (evp_var rfl)) (evs_kq (t6 (evp_var rfl)) evs_nil)) (Nat.le_of_ble_eq_true rfl))
      (evs_kq (evp_kT kn5 (evs_kq (t4 (evp_var rfl)) (evs_kq (t6 (evp_var rfl)) (evs_kq (t4 (evp_var rfl)) evs_nil))) (Nat.le_of_ble_eq_true rfl))
      (evs_kq (evp_kT kn5 (evs_kq (t4 (evp_var rfl)) (evs_kq (t4 (evp_var rfl)) (evs_kq (t6 (evp_var rfl)) (evs_kq (t6 (evp_ev (Evl.ev_op Evl.ev_c Evl.ev_c (Evl.rv_I ⟨by decide, by decide, by decide⟩)))) evs_nil)))) (Nat.le_of_ble_eq_true rfl)) evs_nil)))))) (Nat.le_of_ble_eq_true rfl)) fun v7 H6 e6 h7 => ?_
    obtain ⟨a7, vs7, rfl, n7, g7, k7⟩ := h7
    have n7S : a7 ∉ [p, c] := kn5.off n7
    have S6 := S5.ex e6
    have hr6 := e6 _ _ hr5
    have ne7 : r ≠ a7 := ne_of_none hr5 n7
    have hk6 := hk5.but (But.of (S := [p, c]) e6)
    refine ⟨_, rfl, _, rfl, p, c, 6, rfl, S6, (by decide), (by decide), fun j H7 j0 j6 S7 b7 => ?_⟩
    obtain ⟨j, rfl⟩ := Int.eq_ofNat_of_zero_le j0
    obtain ⟨k, hkj⟩ : ∃ k, (menuK x1 x2 m)[j]? = some k := ⟨_, List.getElem?_eq_getElem (by show j < 6; omega)⟩
    obtain ⟨u, hu7, hku⟩ := keyVs_get (k7.but b7) hkj
    have hr7 := b7.get nS hr6
    have hk7 := hk6.but b7
    have vok : VarOk ks.length k := .inl ⟨x1, x2, m, hx1, hx2, by omega, List.mem_of_getElem? hkj⟩
    have lxs := keyVs_len hk7
    have b27 : But [p, c] H H7 := ((b2.trans b25).trans (But.of e6)).trans b7
    refine ⟨a7, vs7, (j : Int), u, rfl, rfl, SqL.of (b7.get n7S g7), atI_nat hu7, ?_⟩
    have lay := keys_lay hok
    have layk := var_lay vok
    have sh : SeqAt.shaped (.list (NestedKey.datas ks)) = true := by
      unfold SeqAt.shaped
      rw [Bool.and_eq_true]
      refine ⟨by simp only [PyData.canLay0]; exact lay.1, decide_eq_true ?_⟩
      simp only [PyData.depth]
      omega
    have shk : SeqAt.shaped k.data = true := by
      unfold SeqAt.shaped
      rw [Bool.and_eq_true]
      exact ⟨layk.1, decide_eq_true (by omega)⟩
    refine ⟨_, rfl, .inl ⟨rfl, _, SqL.of hr7⟩, _, rfl, _, rfl, k.data, NestedKey.datas ks, KeyV.dp _ _ (KeyV.mono hide_ex _ _ hku), .lst (SqL.of hr7) (KeyVs.dp _ _ (KeyVs.to (Evl.ex_t hide_ex) _ _ hk7)), shk, sh, _, rfl, ite2 (fun z => ?_) (fun z => ?_)⟩
    · have kn : k ∉ ks := not_in z
      refine ⟨_, rfl, r, _, _, rfl, rfl, hr7, small1000 (by omega), ?_⟩
      refine ⟨_, _, _, _, _, _, ks ++ [k], xs ++ [u], rfl, S7.off nS, upd_same, keyVs_snoc (hk7.offL hr7) (hku.offL hr7), by simp, ?_, fun q hq => ?_, b27.mut nr⟩
      · rw [List.nodup_append]
        exact ⟨hnd, by simp, fun x hx y hy e => kn (by rw [List.mem_singleton.mp hy] at e; exact e ▸ hx)⟩
      · rcases List.mem_append.mp hq with h | h
        · exact (hok q h).mono (by omega)
        · rw [List.mem_singleton.mp h]
          exact vok.mono (by omega)
    · have kn := var_new hok
      refine ⟨_, rfl, (by show (2 : Nat) ≤ sizeLine; decide), fun t nt => ⟨r, _, _, rfl, rfl, Ex.new nt _ _ hr7, small1000 (by omega), ?_⟩⟩
      have hr8 := (Ex.new (o := .tup [.str "variable", .int (0 + (ks.length : Int))]) nt) _ _ hr7
      have e0 : (0 : Int) + (ks.length : Int) = (ks.length : Int) := Int.zero_add _
      rw [e0] at hr8 ⊢
      refine ⟨_, _, _, _, _, _, ks ++ [.tup [.text "variable", .num (ks.length : Int)]], xs ++ [.ref t], rfl, (S7.ex (Ex.new nt)).off nS, upd_same, ?_, by simp, ?_, fun q hq => ?_, (b27.trans (But.of (Ex.new nt))).mut nr⟩
      · exact keyVs_snoc ((hk7.but (But.of (Ex.new nt))).offL hr8) (KeyV.offL hr8 (.tup (SqT.of (hide_new S7.kn nt)) (.cons (.text _) (.cons (.num _) .nil))))
      · rw [List.nodup_append]
        exact ⟨hnd, by simp, fun x hx y hy e => kn (by rw [List.mem_singleton.mp hy] at e; exact e ▸ hx)⟩
      · rcases List.mem_append.mp hq with h | h
        · exact (hok q h).mono (by omega)
        · rw [List.mem_singleton.mp h]
          exact .inr ⟨ks.length, by omega, rfl⟩
  · rintro σ H2 ⟨y3, y4, y5, y6, y7, y8, ks, xs, rfl, S2, hr2, hk2, hl, hnd, hok, b2⟩
    rw [Int.toNat_natCast] at hl
    refine ⟨_, rfl, q _ H2 ks ⟨r, xs, rfl, SqL.of (by rw [hide_off nS]; exact hr2), hk2⟩ hl hnd (fun k h => ?_) S2 b2⟩
    have z := hok k h
    rwa [Int.toNat_natCast] at z
end
end L2.Vf.K14
namespace L2.Vf.K14
open PySem PySem.Spec PyProof.Rows
open Evl (Ex Ev EvT EvL EvA)
abbrev s__law_term : Stmt := top 27
def spTerm (K : PySem.W.Frag) (d : Nat) : Sp := fun vs H Q _ => ∃ (p c : Addr) (pq sv : V) (qs : List (Str × Nat)) (ks : List NestedKey), vs = [.ref p, pq, sv, .int (d : Int)] ∧ Src H p c ∧ (∃ ts a, pq = .ref a ∧ SqL K (hide [p, c] H) a (ts.map V.ref) ∧ Paired (RowP K [p, c] H) ts qs) ∧ kl K [p, c] ks sv H ∧
  1 ≤ ks.length ∧ ks.length ≤ 20 ∧ (∀ k ∈ ks, k.depth ≤ 8) ∧ 1 ≤ qs.length ∧ qs.length ≤ 5 ∧ (∀ q ∈ qs, q.2 ≤ 2) ∧ ∀ v H' t, TmIn qs ks d t → tq K [p, c] t v H' → Src H' p c → But [p, c] H H' → Q v H'
def spLess (K : PySem.W.Frag) (d : Nat) : Sp := fun vs H Q E => ∃ e, e < d ∧ spTerm K e vs H Q E
section
variable {P : Program} {w : World} {K : PySem.W.Frag} {mg : Str → Option Value} {base : Heap} {f : Addr} {fd : FuncData}
abbrev n__law_term : List Str := ["_law_source_here", "_law_primitives_here", "_law_some", "_law_deep", "_law_name", "_law_count", "_law_k"]
theorem sc__law_term : FnScope n__law_term ["_law_source_here", "_law_primitives_here", "_law_some", "_law_deep"] (defScope s__law_term) := ⟨rfl, rfl, rfl, by decide +kernel, rfl, by decide +kernel, by decide +kernel⟩
theorem ok_term (F : Fun K "_law_term" "_law_term" s__law_term f fd) (m__law_term : mg "_law_term" = some (.ref f)) (b__law_term : Binds K fd ["_law_source_here", "_law_primitives_here", "_law_some", "_law_deep"] []) (m_range : mg "range" = none) (m_tuple : mg "tuple" = none)
    (hp : Has P w K mg base 1 "_law_pick" ["_law_source_here", "_law_many"] spPick) (ho : Has P w K mg base 2 "_law_of" ["_law_source_here", "_law_some"] (spOf K)) : ∀ d, FnOk P w K mg base CX0 (3 + d) f fd ["_law_source_here", "_law_primitives_here", "_law_some", "_law_deep"] (spLess K d) := by
  have k__law_term := F.kp
  obtain ⟨f1, fd1, G__law_pick, m__law_pick, k__law_pick, b__law_pick⟩ := hp
  obtain ⟨f2, fd2, G__law_of, m__law_of, k__law_of, b__law_of⟩ := ho
  intro d
  induction d with
  | zero => exact ⟨fun vs H Q E h => by obtain ⟨e, he, _⟩ := h; omega, fun A outer s H args us vs Q E _ _ _ _ h => by obtain ⟨e, he, _⟩ := h; omega⟩
  | succ d G__law_term =>
    refine F.ok (k := 3 + d) sc__law_term (fun vs H Q E h => ?_) (fun cdv A outer s H vs Q E hr h => ?_)
    · obtain ⟨e, _, p, c, pq, sv, qs, ks, rfl, _⟩ := h
      rfl
    obtain ⟨e, he, p, c, pq, sv, qs, ks, rfl, hS, hpv, hsv, k1, k20, k8, q1, q5, q2, q⟩ := h
    refine ⟨_, (pss_cons (ps_if (PW.pt (pw_or (pt_cmpR op_eq (pv 3) pe_int (nomark _)) (pw_or1 (pt_cmpR op_eq (pe_call G__law_pick (hr.mono (by omega)) (by rfl) m__law_pick k__law_pick b__law_pick .nil pass0 (pa_cons (pv 0) (pa_cons pe_int pa_nil))) pe_int (nomark _)))))
  (pss_one (ps_ret (pe_tup (pa_cons pe_str (pa_cons (pe_call G__law_of (hr.mono (by omega)) (by rfl) m__law_of k__law_of b__law_of .nil pass0 (pa_cons (pv 0) (pa_cons (pv 2) pa_nil))) pa_nil)))))
  pss_nil)
  (pss_cons (ps_asg (pe_call G__law_of (hr.mono (by omega)) (by rfl) m__law_of k__law_of b__law_of .nil pass0 (pa_cons (pv 0) (pa_cons (pv 1) pa_nil))) (pg_tup rfl (pgs_cons (pg_name (i := 4) sc__law_term.nd rfl (.inl rfl)) (pgs_cons (pg_name (i := 5) sc__law_term.nd rfl (.inl rfl)) pgs_nil))))
  (pss_one (ps_ret (pe_tup (pa_cons pe_str (pa_cons (pv 4) (pa_cons (pe_callTy (call_tuple_ofK (K := K)) (by rfl) m_tuple (by decide +kernel) (pa_cons (pe_lc (own := [("_law_k", 6)]) (g := gName 6) (tt := _) rfl sc__law_term.nd (pi_range1 rfl m_range (pa_cons (pv 5) pa_nil)) (blkOk_by (N := n__law_term) (sc := defScope s__law_term) (by decide +kernel)) (fun _ _ _ _ _ => (pg_name (i := 6) sc__law_term.nd rfl (.inl rfl))) (fun _ _ _ _ _ => pts_nil) (fun _ _ _ _ _ => (pe_call G__law_term (hr.mono (by omega)) (by rfl) m__law_term k__law_term b__law_term .nil pass0 (pa_cons (pv 0) (pa_cons (pv 1) (pa_cons (pv 2) (pa_cons (pe_op op_sub (pv 3) pe_int) pa_nil))))))) pa_nil)) pa_nil)))))))), ?_⟩
    obtain ⟨tps, ap, rfl, hap, hpair⟩ := hpv
    obtain ⟨as, xs, rfl, has, hks⟩ := hsv
    have lks := keyVs_len hks
    have ltp : tps.length = qs.length := Paired.length hpair
    have leaf : ∀ {σ : St} {H1 : Hp} {D : Ends}, σ[0]? = some (some (.ref p)) → σ[2]? = some (some (.ref as)) → D.rt = Q → Src H1 p c → But [p, c] H H1 →
        tRet (tTup (tCons (tC (.str "var")) (tCons (tCall (spOf K) [] E0 (tCons (tVar 0) (tCons (tVar 2) tNil))) tNil))) D σ H1 := by
      intro σ H1 D h0 h2 hD S1 b1
      refine ⟨_, h0, _, h2, p, c, as, xs, rfl, S1, Evl.ex_l b1 has, (by omega), (by omega), fun j v H2 hj S2 b2 => ⟨(by show (2 : Nat) ≤ sizeLine; decide), fun t nt => ?_⟩⟩
      obtain ⟨k, hkj⟩ : ∃ k, ks[j]? = some k := ⟨_, List.getElem?_eq_getElem (by have := (List.getElem?_eq_some_iff.mp hj).1; omega)⟩
      obtain ⟨v', hv', hk⟩ := keyVs_get hks hkj
      rw [hj] at hv'
      cases hv'
      rw [hD]
      have bt := (b1.trans b2).trans (But.of (S := [p, c]) (Ex.new (o := .tup [.str "var", v]) nt))
      refine q _ _ (.var k) (by unfold TmIn; exact List.mem_of_getElem? hkj) ?_ (S2.ex (Ex.new nt)) bt
      exact .var (SqT.of (hide_new S2.kn nt)) (hk.but bt) (k8 k (List.mem_of_getElem? hkj))
    refine ⟨_, rfl, rfl, _, rfl, ite2 (fun _ => iteT (leaf rfl rfl rfl hS But.refl)) (fun z => ?_)⟩
    have e1 : e ≠ 0 := fun h => z (by rw [h]; rfl)
    obtain ⟨e', rfl⟩ := Nat.exists_eq_succ_of_ne_zero e1
    refine ⟨_, rfl, p, c, 3, rfl, hS, (by decide), (by decide), fun m H1 m0 m3 S1 b1 => ⟨rfl, _, rfl, ite2 (fun _ => leaf rfl rfl rfl S1 b1) (fun _ => ?_)⟩⟩
    refine ⟨_, rfl, _, rfl, p, c, ap, _, rfl, S1, Evl.ex_l b1 hap, by rw [List.length_map]; omega, by rw [List.length_map]; omega, fun i v H2 hi S2 b2 => ?_⟩
    have b02 := b1.trans b2
    obtain ⟨a2, ha2, rfl⟩ : ∃ t, tps[i]? = some t ∧ v = V.ref t := by
      rw [List.getElem?_map] at hi
      cases e : tps[i]? with
      | none => rw [e] at hi; cases hi
      | some t => rw [e] at hi; exact ⟨t, rfl, (Option.some.inj hi).symm⟩
    obtain ⟨x, hxi, hrow⟩ := pair_at hpair ha2
    have hx := List.mem_of_getElem? hxi
    have row2 : SqT K (hide [p, c] H2) a2 [.str x.1, .int (x.2 : Int)] := Evl.ex_t b02 hrow
    refine ⟨a2, _, rfl, Evl.ex_t hide_ex row2, rfl, _, _, rfl, _, _, rfl, rfl, ?_⟩
    have x2 := q2 x hx
    refine ⟨_, rfl, _, rfl, _, rfl, (by omega), (by omega), fun D nD => ?_⟩
    have nDS : D ∉ [p, c] := S2.kn.off nD
    refine lc_range (lo := 0) (n := ((x.2 : Nat) : Int).toNat) (fun j H' => ∃ (ts : List Tm) (xs : List V), H' D = some (.lst xs) ∧ TmVs K (hide [p, c] H') ts xs ∧ ts.length = j ∧ TmsIn qs ks e' ts ∧ Src H' p c ∧ But [p, c] H2 H')
      ⟨[], [], upd_same, .nil, rfl, by unfold TmsIn; trivial, S2.ex (Ex.new nD), But.of (Ex.new nD)⟩ ?_ ?_
    · rintro j H3 hj ⟨ts, ys, hD, hts, rfl, htm, S3, b3⟩
      rw [Int.toNat_natCast] at hj
      have b03 := b02.trans b3
      have eq : ((e'.succ : Nat) : Int) - 1 = (e' : Int) := by omega
      refine ⟨rfl, ?_⟩
      refine ⟨_, rfl, _, rfl, _, rfl, _, rfl, _, _, rfl, rfl, e', by omega, p, c, .ref ap, .ref as, qs, ks, ?_, S3, ⟨tps, ap, rfl, Evl.ex_l b03 hap, pairedTo hpair fun t q h => Evl.ex_t b03 h⟩, ⟨as, xs, rfl, Evl.ex_l b03 has, hks.but b03⟩, k1, k20, k8, q1, q5, q2, fun v H4 t ht hv4 S4 b4 => ?_⟩
      · show [V.ref p, V.ref ap, V.ref as, V.int (((e'.succ : Nat) : Int) - 1)] = _
        rw [eq]
      · have hD4 := b4.get nDS hD
        have l3 := tmVs_len hts
        refine ⟨ys, hD4, small1000 (by omega), ts ++ [t], ys ++ [v], upd_same, ?_, by simp, tmsIn_snoc htm ht, S4.off nDS, (b3.trans b4).mut nD⟩
        exact tmVs_snoc ((hts.but b4).offL hD4) (TmV.offL hD4 hv4)
    · rintro H3 ⟨ts, ys, hD, hts, hl, htm, S3, b3⟩
      rw [Int.toNat_natCast] at hl
      have b03 := b02.trans b3
      refine ⟨D, ys, rfl, .inl ⟨SqL.of hD, fun t1 n1 => ⟨(by show (3 : Nat) ≤ sizeLine; decide), fun t2 n2 => ?_⟩⟩⟩
      have e3 : Ex H3 (upd (upd H3 t1 (.tup ys)) t2 (.tup [.str "of", .str x.1, .ref t1])) := (Ex.new n1).trans (Ex.new n2)
      have k4 : Kn [p, c] (upd H3 t1 (.tup ys)) := S3.kn.ex (Ex.new n1)
      refine q _ _ (.of x.1 ts) ?_ ?_ (S3.ex e3) (b03.trans (But.of e3))
      · unfold TmIn
        refine ⟨?_, htm⟩
        rw [hl]
        exact hx
      · exact .of (SqT.of (hide_new k4 n2)) (Evl.ex_t (But.of (Ex.new n2)) (SqT.of (hide_new S3.kn n1))) (hts.but (But.of e3)) (by omega)
end
end L2.Vf.K14
namespace L2.Vf.K14
open PySem PySem.Spec PyProof.Rows
open Evl (Ex Ev EvT EvL EvA)
abbrev s__law_put : Stmt := top 28
def spPut (K : PySem.W.Frag) (w : World) (n : Nat) : Sp := fun vs H Q _ => ∃ (S : List Addr) (tv dv : V) (t : Tm) (tb : Tb), vs = [tv, dv] ∧ Kn S H ∧ tq K S t tv H ∧ bq K w S tb dv H ∧ t.deep < n ∧
  ∀ v H', tq K S (t.put tb) v H' → Ex H H' → Q v H'
section
variable {P : Program} {w : World} {K : PySem.W.Frag} {mg : Str → Option Value} {base : Heap} {f : Addr} {fd : FuncData}
abbrev n__law_put : List Str := ["_law_term_here", "_law_table", "_law_member"]
theorem sc__law_put : FnScope n__law_put ["_law_term_here", "_law_table"] (defScope s__law_put) := ⟨rfl, rfl, rfl, by decide +kernel, rfl, by decide +kernel, by decide +kernel⟩
theorem ok_put (F : Fun K "_law_put" "_law_put" s__law_put f fd) (m__law_put : mg "_law_put" = some (.ref f)) (b__law_put : Binds K fd ["_law_term_here", "_law_table"] []) (m_tuple : mg "tuple" = none) :
    ∀ d, FnOk P w K mg base CX0 d f fd ["_law_term_here", "_law_table"] (spPut K w d) := by
  have k__law_put := F.kp
  intro d
  induction d with
  | zero => exact ⟨fun vs H Q E h => by obtain ⟨_, _, _, _, _, _, _, _, _, h, _⟩ := h; omega, fun A outer s H args us vs Q E _ _ _ _ h => by obtain ⟨_, _, _, _, _, _, _, _, _, h, _⟩ := h; omega⟩
  | succ d G__law_put =>
    refine F.ok (k := d) sc__law_put (fun vs H Q E h => ?_) (fun cdv A outer s H vs Q E hr h => ?_)
    · obtain ⟨S, tv, dv, t, tb, rfl, _⟩ := h
      rfl
    obtain ⟨S, tv, dv, t, tb, rfl, kn, ht, hb, hd, q⟩ := h
    refine ⟨_, (pss_cons (ps_if (pt_cmpR op_eq (pe_ix (ix_tupK (K := K)) (pv 0) pe_int (fun _ _ => rfl)) pe_str (nomark _))
  (pss_one (ps_ret (pe_ifExp (pt_cmpR (op_inM (K := K) (w := w) (units40 hr)) (pe_ix (ix_tupK (K := K)) (pv 0) pe_int (fun _ _ => rfl)) (pv 1) (by rfl)) (pe_mget (K := K) (w := w) (units40 hr) (pv 1) (pe_ix (ix_tupK (K := K)) (pv 0) pe_int (fun _ _ => rfl)) (fun _ _ => rfl)) (pv 0))))
  pss_nil)
  (pss_one (ps_ret (pe_tup (pa_cons pe_str (pa_cons (pe_ix (ix_tupK (K := K)) (pv 0) pe_int (fun _ _ => rfl)) (pa_cons (pe_callTy (call_tuple_ofK (K := K)) (by rfl) m_tuple (by decide +kernel) (pa_cons (pe_lc (own := [("_law_member", 2)]) (g := gName 2) (tt := _) rfl sc__law_put.nd (pi_tup (pe_ix (ix_tupK (K := K)) (pv 0) pe_int (fun _ _ => rfl))) (blkOk_by (N := n__law_put) (sc := defScope s__law_put) (by decide +kernel)) (fun _ _ _ _ _ => (pg_name (i := 2) sc__law_put.nd rfl (.inl rfl))) (fun _ _ _ _ _ => pts_nil) (fun _ _ _ _ _ => (pe_call G__law_put (hr.mono (by omega)) (by rfl) m__law_put k__law_put b__law_put .nil pass0 (pa_cons (pv 2) (pa_cons (pv 1) pa_nil))))) pa_nil)) pa_nil))))))), ?_⟩
    cases t with
    | var k =>
      cases ht with
      | @var a _ kv h1 h2 h3 =>
        obtain ⟨d0, ks, rfl, hm, hrows⟩ := hb
        have g1 := Evl.ex_t hide_ex h1
        have g2 := KeyV.mono hide_ex _ _ h2
        refine ⟨_, rfl, a, _, 0, _, rfl, rfl, g1, rfl, rfl, _, rfl, ite2 (fun _ => ?_) (fun z => (z rfl).elim)⟩
        refine ⟨_, rfl, a, _, 1, _, rfl, rfl, g1, rfl, _, rfl, d0, ks, k, rfl, hm.shown, g2, h3, _, rfl, ite2 (fun z => ?_) (fun z => ?_)⟩
        · rcases tbR_look hrows k with ⟨e1, _⟩ | ⟨v, t, e1, e2, hv⟩
          · rw [e1] at z
            cases z
          · refine ⟨_, rfl, _, rfl, a, _, 1, _, rfl, rfl, g1, rfl, d0, ks, k, v, rfl, hm.shown, g2, h3, e1, q v H ?_ (Ex.refl H)⟩
            unfold Tm.put
            rw [e2]
            exact hv
        · rcases tbR_look hrows k with ⟨_, e2⟩ | ⟨v, t, e1, _, _⟩
          · refine ⟨_, rfl, q _ H ?_ (Ex.refl H)⟩
            unfold Tm.put
            rw [e2]
            exact .var h1 h2 h3
          · rw [e1] at z
            exact (z rfl).elim
    | of x ts =>
      cases ht with
      | @of a b _ _ vs h1 h2 h3 h4 =>
        have g1 := Evl.ex_t hide_ex h1
        have g2 := Evl.ex_t hide_ex h2
        refine ⟨_, rfl, a, _, 0, _, rfl, rfl, g1, rfl, rfl, _, rfl, ite2 (fun z => ?_) (fun _ => ?_)⟩
        · exact absurd z (by decide +kernel)
        refine ⟨_, rfl, a, _, 1, _, rfl, rfl, g1, rfl, ?_⟩
        refine ⟨_, rfl, a, _, 2, _, rfl, rfl, g1, rfl, b, rfl, ⟨_, g2⟩, fun D nD => ?_⟩
        have nDS : D ∉ S := kn.off nD
        have dts : Tm.deeps ts < d := by
          unfold Tm.deep at hd
          omega
        refine lc_tup (K := K) (a := b) (xs := vs) (fun j H' => ∃ ys : List V, H' D = some (.lst ys) ∧ TmVs K (hide S H') (Tm.puts tb (ts.take j)) ys ∧ ys.length = j ∧ Ex H H') ⟨[], upd_same, .nil, rfl, Ex.new nD⟩ (fun i H' _ h => by
          obtain ⟨_, _, _, _, e⟩ := h
          exact Evl.ex_t e g2) ?_ ?_
        · rintro j v H3 hj ⟨ys, hD, hts, rfl, e3⟩
          obtain ⟨t, htj, htv⟩ := tmVs_take h3 hj
          refine ⟨rfl, ?_⟩
          refine ⟨_, rfl, _, rfl, S, v, dv, t, tb, rfl, kn.ex e3, TmV.but (But.of e3) htv, hb.but (But.of e3), by have := deep_le htj; omega, fun u H4 hu e4 => ?_⟩
          have lv := tmVs_len h3
          have lj := (List.getElem?_eq_some_iff.mp hj).1
          refine ⟨ys, e4 _ _ hD, ?_, ys ++ [u], upd_same, ?_, by simp, (e3.trans e4).mut nD⟩
          · exact small1000 (by omega)
          · rw [List.take_add_one, htj, puts_map, List.map_append, ← puts_map]
            exact tmVs_snoc ((hts.but (But.of e4)).offL (e4 _ _ hD)) (TmV.offL (e4 _ _ hD) hu)
        · rintro H3 ⟨ys, hD, hts, hl, e3⟩
          have lv := tmVs_len h3
          rw [lv, List.take_length] at hts
          refine ⟨D, ys, rfl, .inl ⟨SqL.of hD, fun t1 n1 => ⟨(by show (3 : Nat) ≤ sizeLine; decide), fun t2 n2 => ?_⟩⟩⟩
          have e4 : Ex H3 (upd (upd H3 t1 (.tup ys)) t2 (.tup [.str "of", .str x, .ref t1])) := (Ex.new n1).trans (Ex.new n2)
          have k4 : Kn S (upd H3 t1 (.tup ys)) := (kn.ex e3).ex (Ex.new n1)
          refine q _ _ ?_ (e3.trans e4)
          unfold Tm.put
          exact .of (SqT.of (hide_new k4 n2)) (Evl.ex_t (But.of (Ex.new n2)) (SqT.of (hide_new (kn.ex e3) n1))) (hts.but (But.of e4)) (by rw [puts_map, List.length_map]; exact h4)
end
end L2.Vf.K14
/-! The parts of a term. -/
namespace L2.Vf.K14
open PySem PySem.Spec PyProof.Rows
open Evl (Ex Ev EvT EvL EvA)
mutual
/-- all parts, in the order in which they are visited -/
def _root_.L2.Vf.Tm.pre : Tm → List Tm
  | .var k => [.var k]
  | .of x ts => .of x ts :: Tm.pres ts
def _root_.L2.Vf.Tm.pres : List Tm → List Tm
  | [] => []
  | t :: ts => t.pre ++ Tm.pres ts
end
theorem pres_app : ∀ (a b : List Tm), Tm.pres (a ++ b) = Tm.pres a ++ Tm.pres b
  | [], b => by simp [Tm.pres]
  | t :: a, b => by
    show t.pre ++ Tm.pres (a ++ b) = (t.pre ++ Tm.pres a) ++ Tm.pres b
    rw [pres_app a b, List.append_assoc]
theorem pre_pos (t : Tm) : 1 ≤ t.pre.length := by
  cases t with
  | var k => exact Nat.le_refl _
  | of x ts =>
    show 1 ≤ (Tm.of x ts :: Tm.pres ts).length
    rw [List.length_cons]
    omega
theorem pres_len : ∀ (a : List Tm), a.length ≤ (Tm.pres a).length
  | [] => Nat.le_refl _
  | t :: a => by
    show (t :: a).length ≤ (t.pre ++ Tm.pres a).length
    have := pre_pos t
    have := pres_len a
    rw [List.length_append, List.length_cons]
    omega
theorem tmVs_app {K : PySem.W.Frag} {H : Hp} : ∀ {a b : List Tm} {xs ys : List V}, TmVs K H a xs → TmVs K H b ys → TmVs K H (a ++ b) (xs ++ ys)
  | [], _, _, _, h, g => by cases h; exact g
  | t :: a, _, _, _, h, g => by
    cases h with
    | cons h1 h2 => exact .cons h1 (tmVs_app h2 g)
theorem tmVs_rev {K : PySem.W.Frag} {H : Hp} : ∀ {a : List Tm} {xs : List V}, TmVs K H a xs → TmVs K H a.reverse xs.reverse
  | [], _, h => by cases h; exact .nil
  | t :: a, _, h => by
    cases h with
    | cons h1 h2 =>
      rw [List.reverse_cons, List.reverse_cons]
      exact tmVs_snoc (tmVs_rev h2) h1
theorem tmVs_last {K : PySem.W.Frag} {H : Hp} {ts : List Tm} {ys : List V} {t : Tm} (h : TmVs K H (ts ++ [t]) ys) : ∃ zs v, ys = zs ++ [v] ∧ TmVs K H ts zs ∧ TmV K H t v := by
  have r := tmVs_rev h
  rw [List.reverse_append] at r
  generalize e : ys.reverse = rs at r
  cases r with
  | cons h1 h2 =>
    have z := congrArg List.reverse e
    rw [List.reverse_reverse, List.reverse_cons] at z
    have q := tmVs_rev h2
    have e2 : ts.reverse.reverse = ts := List.reverse_reverse ts
    refine ⟨_, _, z, ?_, h1⟩
    rw [← e2]
    exact q
theorem tmVs_get {K : PySem.W.Frag} {H : Hp} : ∀ {ts : List Tm} {vs : List V} {i : Nat} {x : V}, TmVs K H ts vs → vs[i]? = some x → ∃ t r, ts.drop i = t :: r ∧ TmV K H t x ∧ ts.drop (i + 1) = r
  | [], _, i, x, h, e => by
    cases h
    rw [List.getElem?_nil] at e
    cases e
  | t :: ts, _, 0, x, h, e => by
    cases h with
    | cons h1 h2 =>
      rw [List.getElem?_cons_zero] at e
      cases e
      exact ⟨t, ts, rfl, h1, rfl⟩
  | t :: ts, _, i + 1, x, h, e => by
    cases h with
    | cons h1 h2 =>
      rw [List.getElem?_cons_succ] at e
      obtain ⟨t', r, a1, a2, a3⟩ := tmVs_get (ts := ts) h2 e
      exact ⟨t', r, a1, a2, a3⟩
theorem hide_upd {S : List Addr} {H : Hp} {d : Addr} {o : HO} (n : d ∉ S) : hide S (upd H d o) = upd (hide S H) d o := by
  funext b
  by_cases z : b = d
  · rw [z, upd_same, hide_off n, upd_same]
  · rw [upd_ne z]
    by_cases y : b ∈ S
    · rw [hide, hide, if_pos y, if_pos y]
    · rw [hide_off y, hide_off y, upd_ne z]
theorem keys_of {K : PySem.W.Frag} {H : Hp} : ∀ {ks : List Mv}, (∀ p ∈ ks, KeyV K H p.1 p.2.1 ∧ p.1.depth ≤ 8) → KeyVs K H (ks.map (·.1)) (ks.map (·.2.1))
  | [], _ => .nil
  | p :: ks, h => .cons (h p List.mem_cons_self).1 (keys_of fun q hq => h q (List.mem_cons_of_mem _ hq))
end L2.Vf.K14
/-! What a term comes to: folded. -/
namespace L2.Vf.K14
open PySem PySem.Spec PyProof.Rows
open Evl (Ex Ev EvT EvL EvA)
open RT
theorem lc_ItvT {K : PySem.W.Frag} {a : Addr} {xs : List V} {g : TG} {tt : TT} {te : TE} {vs : List Nat} {σ : St} {H1 : Hp} {D : Addr} {Qd : Hp → Prop} (Pv : Nat → Hp → Prop) (h0 : Pv 0 (upd H1 D (.lst []))) (hl : ∀ i H, Pv i H → SqT K H a xs)
    (hs : ∀ i x H, i < xs.length → xs[xs.length - 1 - i]? = some x → Pv i H → g x (wipe σ vs) H fun σ2 H2 => wipe σ2 vs = wipe σ vs ∧ tt σ2 H2 fun b H3 =>
      if b = true then te σ2 H3 fun y H4 => ∃ acc, H4 D = some (.lst acc) ∧ acc.length < sizeLine ∧ Pv (i + 1) (upd H4 D (.lst (acc ++ [y]))) else Pv (i + 1) H3) (hd : ∀ H, Pv xs.length H → Qd H) :
    ∃ W : Nat → Nat → Hp → Prop, (∃ m, W 0 m (upd H1 D (.lst []))) ∧ ∀ i m H, W i m H →
      ((ItvT K a xs.length).stop i H ∧ Qd H) ∨ ((ItvT K a xs.length).go i H ∧ ∃ Nx : Hp → Prop, (∀ H', Nx H' → ∃ m', m' < m ∧ W (i + 1) m' H') ∧ ∀ x H', (ItvT K a xs.length).yld i H x H' → g x (wipe σ vs) H' fun σ2 H2 => wipe σ2 vs = wipe σ vs ∧ tt σ2 H2 fun b H3 =>
        if b = true then te σ2 H3 fun y H4 => ∃ acc, H4 D = some (.lst acc) ∧ acc.length < sizeLine ∧ Nx (upd H4 D (.lst (acc ++ [y]))) else Nx H3) := by
  refine ⟨fun i m H => m = xs.length - i ∧ i ≤ xs.length ∧ Pv i H, ⟨xs.length, by simp, Nat.zero_le _, h0⟩, ?_⟩
  rintro i m H ⟨rfl, hi, p⟩
  by_cases hlt : i < xs.length
  · have hj : xs.length - 1 - i < xs.length := by omega
    have hx : xs[xs.length - 1 - i]? = some xs[xs.length - 1 - i] := List.getElem?_eq_getElem hj
    refine .inr ⟨⟨hlt, xs, _, hl i H p, hx⟩, Pv (i + 1), fun H' p' => ⟨xs.length - (i + 1), by omega, rfl, hlt, p'⟩, fun v H' y => ?_⟩
    obtain ⟨e, hy⟩ := y
    subst e
    exact hs i v _ hlt (hy xs (hl i _ p)) p
  · have e : i = xs.length := by omega
    subst e
    exact .inl ⟨Nat.le_refl _, hd H p⟩
/-- what is still to do: a term, and whether its terms are done -/
abbrev Td := Tm × Bool
def TdV (K : PySem.W.Frag) (H : Hp) (y : V) (it : Td) : Prop := ∃ a p, y = V.ref a ∧ SqT K H a [p, .bl it.2] ∧ TmV K H it.1 p
/-- going on so ends with this term's value alone -/
inductive Good (t : Tm) : List Td → List Tm → Prop
  | fin : Good t [] [t]
  | todo {u : Tm} {r : List Td} {ds : List Tm} : Good t r (ds ++ [u]) → Good t ((u, false) :: r) ds
  | made {x : Str} {us : List Tm} {r : List Td} {ds : List Tm} : Good t r (ds ++ [.of x us]) → Good t ((.of x us, true) :: r) (ds ++ us)
theorem pre_self (t : Tm) : t ∈ t.pre := by
  cases t with
  | var k => exact List.mem_singleton.mpr rfl
  | of x ts => exact List.mem_cons_self
mutual
theorem pre_in : ∀ (t : Tm) {x : Str} {us : List Tm} {u : Tm}, Tm.of x us ∈ t.pre → u ∈ us → u ∈ t.pre
  | .var k, x, us, u, h, _ => by
    have z : Tm.of x us ∈ [Tm.var k] := h
    cases List.mem_singleton.mp z
  | .of y ts, x, us, u, h, hu => by
    have z : Tm.of x us ∈ Tm.of y ts :: Tm.pres ts := h
    show u ∈ Tm.of y ts :: Tm.pres ts
    rcases List.mem_cons.mp z with e | z
    · injection e with _ e
      subst e
      exact List.mem_cons_of_mem _ (pres_self us hu)
    · exact List.mem_cons_of_mem _ (pres_in ts z hu)
theorem pres_in : ∀ (ts : List Tm) {x : Str} {us : List Tm} {u : Tm}, Tm.of x us ∈ Tm.pres ts → u ∈ us → u ∈ Tm.pres ts
  | [], x, us, u, h, _ => by cases h
  | t :: ts, x, us, u, h, hu => by
    have z : Tm.of x us ∈ t.pre ++ Tm.pres ts := h
    show u ∈ t.pre ++ Tm.pres ts
    rcases List.mem_append.mp z with z | z
    · exact List.mem_append_left _ (pre_in t z hu)
    · exact List.mem_append_right _ (pres_in ts z hu)
theorem pres_self : ∀ (ts : List Tm) {u : Tm}, u ∈ ts → u ∈ Tm.pres ts
  | [], u, h => by cases h
  | t :: ts, u, h => by
    show u ∈ t.pre ++ Tm.pres ts
    rcases List.mem_cons.mp h with e | h
    · rw [e]
      exact List.mem_append_left _ (pre_self t)
    · exact List.mem_append_right _ (pres_self ts h)
end
theorem good_all {t : Tm} {st : List Td} {ds : List Tm} (h : Good t st ds) : (∀ it ∈ st, it.1 ∈ t.pre) ∧ ∀ u ∈ ds, u ∈ t.pre := by
  induction h with
  | fin => exact ⟨(fun it z => by cases z), fun u z => by rw [List.mem_singleton.mp z]; exact pre_self t⟩
  | @todo u r ds _ ih =>
    obtain ⟨h1, h2⟩ := ih
    refine ⟨fun it z => ?_, fun v z => h2 v (List.mem_append_left _ z)⟩
    rcases List.mem_cons.mp z with e | z
    · rw [e]
      exact h2 u (by simp)
    · exact h1 it z
  | @made x us r ds _ ih =>
    obtain ⟨h1, h2⟩ := ih
    have hx := h2 (.of x us) (by simp)
    refine ⟨fun it z => ?_, fun v z => ?_⟩
    · rcases List.mem_cons.mp z with e | z
      · rw [e]
        exact hx
      · exact h1 it z
    · rcases List.mem_append.mp z with z | z
      · exact h2 v (List.mem_append_left _ z)
      · exact pre_in t hx z
theorem good_push {t : Tm} {x : Str} {us : List Tm} {r : List Td} {ds : List Tm} (h : Good t r (ds ++ [.of x us])) : ∀ (b a : List Tm), a ++ b = us → Good t (b.map (fun u => (u, false)) ++ (.of x us, true) :: r) (ds ++ a)
  | [], a, e => by
    rw [List.append_nil] at e
    subst e
    exact .made h
  | u :: b, a, e => by
    refine .todo ?_
    rw [List.append_assoc]
    exact good_push h b (a ++ [u]) (by rw [List.append_assoc]; exact e)
def mu : List Td → Nat
  | [] => 0
  | (u, b) :: r => (if b = true then 1 else 2 * u.pre.length) + mu r
theorem mu_app : ∀ (a b : List Td), mu (a ++ b) = mu a + mu b
  | [], b => by simp [mu]
  | (u, c) :: a, b => by
    show _ + mu (a ++ b) = _ + mu a + mu b
    rw [mu_app a b]
    omega
theorem mu_map : ∀ (us : List Tm), mu (us.map fun u => (u, false)) = 2 * (Tm.pres us).length
  | [] => rfl
  | u :: us => by
    show (if false = true then 1 else 2 * u.pre.length) + mu (us.map fun u => (u, false)) = 2 * (u.pre ++ Tm.pres us).length
    rw [mu_map us, if_neg Bool.false_ne_true, List.length_append]
    omega
theorem mu_len : ∀ (st : List Td), st.length ≤ mu st
  | [] => Nat.le_refl _
  | (u, c) :: st => by
    have := mu_len st
    have := pre_pos u
    show st.length + 1 ≤ (if c = true then 1 else 2 * u.pre.length) + mu st
    split <;> omega
theorem pair_rev {α β : Type} {R : α → β → Prop} : ∀ {a : List α} {b : List β}, Paired R a b → Paired R a.reverse b.reverse := by
  have snoc : ∀ {a : List α} {b : List β} {x : α} {y : β}, Paired R a b → R x y → Paired R (a ++ [x]) (b ++ [y]) := by
    intro a b x y h g
    induction h with
    | nil => exact .cons g .nil
    | cons h1 _ ih => exact .cons h1 ih
  intro a b h
  induction h with
  | nil => exact .nil
  | cons h1 _ ih =>
    rw [List.reverse_cons, List.reverse_cons]
    exact snoc ih h1
theorem pairApp {α β : Type} {R : α → β → Prop} {a a' : List α} {b b' : List β} (h : Paired R a b) (g : Paired R a' b') : Paired R (a ++ a') (b ++ b') := by
  induction h with
  | nil => exact g
  | cons h1 _ ih => exact .cons h1 ih
theorem pair_last {α β : Type} {R : α → β → Prop} {a : List α} {b : List β} {y : β} (h : Paired R a (b ++ [y])) : ∃ c x, a = c ++ [x] ∧ Paired R c b ∧ R x y := by
  have r := pair_rev h
  rw [List.reverse_append] at r
  generalize e : a.reverse = rs at r
  cases r with
  | cons h1 h2 =>
    have z := congrArg List.reverse e
    rw [List.reverse_reverse, List.reverse_cons] at z
    have q := pair_rev h2
    have e2 : b.reverse.reverse = b := List.reverse_reverse b
    refine ⟨_, _, z, ?_, h1⟩
    rw [← e2]
    exact q
theorem pair_split {α β : Type} {R : α → β → Prop} : ∀ {a : List α} {b c : List β}, Paired R a (b ++ c) → ∃ a1 a2, a = a1 ++ a2 ∧ Paired R a1 b ∧ Paired R a2 c
  | a, [], c, h => ⟨[], a, rfl, .nil, h⟩
  | _, y :: b, c, h => by
    cases h with
    | cons h1 h2 =>
      obtain ⟨a1, a2, e, g1, g2⟩ := pair_split (b := b) h2
      exact ⟨_ :: a1, a2, by rw [e]; rfl, .cons h1 g1, g2⟩
theorem pair_map {α β : Type} {R R' : α → β → Prop} {a : List α} {b : List β} (f : ∀ x y, R x y → R' x y) (h : Paired R a b) : Paired R' a b := by
  induction h with
  | nil => exact .nil
  | cons h1 _ ih => exact .cons (f _ _ h1) ih
theorem TdV.to {K : PySem.W.Frag} {H H' : Hp} (e : ∀ {a : Addr} {xs : List V}, SqT K H a xs → SqT K H' a xs) {y : V} {it : Td} (h : TdV K H y it) : TdV K H' y it := by
  obtain ⟨a, p, h1, h2, h3⟩ := h
  exact ⟨a, p, h1, e h2, TmV.to e _ _ h3⟩
abbrev s_folded : Stmt := top 7
/-- a def that stands in the base -/
def Stands (P : Program) (w : World) (K : PySem.W.Frag) (mg : Str → Option Value) (kl : Nat) (b : Heap) (f : Addr) (ps : List Str) (sp : Sp) : Prop := ∃ fd, PySem.W.FnAt f b ∧ FnOk P w K mg b CX0 kl f fd ps sp ∧ Binds K fd ps []
def spFolded (P : Program) (w : World) (K : PySem.W.Frag) (mg : Str → Option Value) (kl : Nat) (b : Heap) : Sp := fun vs H Q _ => ∃ (S : List Addr) (t : Tm) (v : V) (f1 f2 : Addr) (ps1 ps2 : List Str) (sp1 sp2 : Sp) (val : Tm → V → Hp → Prop), vs = [v, .ref f1, .ref f2] ∧
  Stands P w K mg kl b f1 ps1 sp1 ∧ Stands P w K mg kl b f2 ps2 sp2 ∧ TmV K (hide S H) t v ∧ Kn S H ∧ t.pre.length ≤ 10000 ∧
  (∀ u x H1 H2, (∀ {a : Addr} {xs : List V}, SqT K (hide S H1) a xs → SqT K (hide S H2) a xs) → val u x H1 → val u x H2) ∧
  (∀ k p H1 Q1, Tm.var k ∈ t.pre → But S H H1 → Kn S H1 → TmV K (hide S H1) (.var k) p → (∀ x H2, val (.var k) x H2 → But S H1 H2 → Kn S H2 → Q1 x H2) → sp1 [p] H1 Q1 E0) ∧
  (∀ y us p m xs H1 Q1, But S H H1 → Kn S H1 → TmV K (hide S H1) (.of y us) p → SqT K (hide S H1) m xs → Paired (fun x u => val u x H1) xs us → (∀ x H2, val (.of y us) x H2 → But S H1 H2 → Kn S H2 → Q1 x H2) → sp2 [p, .ref m] H1 Q1 E0) ∧
  ∀ x H', val t x H' → But S H H' → Kn S H' → Q x H'
def WFold (K : PySem.W.Frag) (S : List Addr) (H : Hp) (D L f1 f2 : Addr) (v : V) (t : Tm) (val : Tm → V → Hp → Prop) (m : Nat) (σ : St) (H' : Hp) : Prop := ∃ (xs ys : List V) (ds : List Tm) (st : List Td) (y5 y6 y7 y8 y9 : Option V),
  σ = [some v, some (.ref f1), some (.ref f2), some (.ref D), some (.ref L), y5, y6, y7, y8, y9] ∧ H' D = some (.lst xs) ∧ H' L = some (.lst ys) ∧ Paired (fun x u => val u x H') xs ds ∧ Paired (TdV K (hide S H')) ys st.reverse ∧ Good t st ds ∧ But S H H' ∧ Kn S H' ∧
  m = mu st ∧ ds.length + mu st ≤ 20000
section
variable {P : Program} {w : World} {K : PySem.W.Frag} {mg : Str → Option Value} {base : Heap} {f : Addr} {fd : FuncData}
abbrev n_folded : List Str := ["term", "of_variable", "of_made", "done", "todo", "part", "is_ready", "first", "members", "member"]
theorem sc_folded : FnScope n_folded ["term", "of_variable", "of_made"] (defScope s_folded) := ⟨rfl, rfl, rfl, by decide +kernel, rfl, by decide +kernel, by decide +kernel⟩
theorem ok_folded {kl : Nat} (F : Fun K "folded" "folded" s_folded f fd) (m_len : mg "len" = none) (m_tuple : mg "tuple" = none) (m_reversed : mg "reversed" = none) : FnOk P w K mg base CX0 (kl + 1) f fd ["term", "of_variable", "of_made"] (spFolded P w K mg kl base) := by
  refine F.ok (k := kl) sc_folded (fun vs H Q E h => ?_) (fun cdv A outer s H vs Q E hr h => ?_)
  · obtain ⟨S, t, v, f1, f2, ps1, ps2, sp1, sp2, val, rfl, _⟩ := h
    rfl
  obtain ⟨S, t, v, f1, f2, ps1, ps2, sp1, sp2, val, rfl, F1, F2, hv, hk, hl, vst, c1, c2, q⟩ := h
  refine ⟨_, (pss_cons (ps_set (i := 3) sc_folded.nd rfl (.inl rfl) (pe_lst pa_nil))
  (pss_cons (ps_set (i := 4) sc_folded.nd rfl (.inl rfl) (pe_lst (pa_cons (pe_tup (pa_cons (pv 0) (pa_cons pe_bl pa_nil))) pa_nil)))
  (pss_cons (ps_while PassesOwn.never (pt_truth (pv 4) (by intro _; rfl))
  (pss_cons (ps_asg (pe_bm0 PySem.F.plainAttrs_list PySem.F.slot_list_pop PySem.F.type_list_pop mt_pop (pv 4)) (pg_tup rfl (pgs_cons (pg_name (i := 5) sc_folded.nd rfl (.inl rfl)) (pgs_cons (pg_name (i := 6) sc_folded.nd rfl (.inl rfl)) pgs_nil))))
  (pss_one (ps_if (pt_cmpR op_eq (pe_ix (ix_tupK (K := K)) (pv 5) pe_int (fun _ _ => rfl)) pe_str (nomark _))
  (pss_one (ps_expr (pe_bm PySem.F.plainAttrs_list PySem.F.slot_list_append PySem.F.type_list_append mt_append (pv 3) (pa_cons (pe_callL (CX := CX0) (k := kl) (i := 1) (hr.mono (by omega)) (by rfl) (.inl rfl) pass0 (pa_cons (pv 5) pa_nil)) pa_nil))))
  (pss_one (ps_if (pt_val (pv 6))
  (pss_cons (ps_set (i := 7) sc_folded.nd rfl (.inl rfl) (pe_op op_sub (pe_callB (call_lenK (K := K)) (by rfl) m_len PySem.boot_len (pa_cons (pv 3) pa_nil)) (pe_callB (call_lenK (K := K)) (by rfl) m_len PySem.boot_len (pa_cons (pe_ix (ix_tupK (K := K)) (pv 5) pe_int (fun _ _ => rfl)) pa_nil))))
  (pss_cons (ps_set (i := 8) sc_folded.nd rfl (.inl rfl) (pe_callTy (call_tuple_ofK (K := K)) (by rfl) m_tuple (by decide +kernel) (pa_cons (pe_slice (sl_listK (K := K)) (pv 3) (po_some (pv 7)) po_none) pa_nil)))
  (pss_cons (ps_delFrom (pv 3) (pv 7))
  (pss_one (ps_expr (pe_bm PySem.F.plainAttrs_list PySem.F.slot_list_append PySem.F.type_list_append mt_append (pv 3) (pa_cons (pe_callL (CX := CX0) (k := kl) (i := 2) (hr.mono (by omega)) (by rfl) (.inl rfl) pass0 (pa_cons (pv 5) (pa_cons (pv 8) pa_nil))) pa_nil)))))))
  (pss_cons (ps_expr (pe_bm PySem.F.plainAttrs_list PySem.F.slot_list_append PySem.F.type_list_append mt_append (pv 4) (pa_cons (pe_tup (pa_cons (pv 5) (pa_cons pe_bl pa_nil))) pa_nil)))
  (pss_one (ps_expr (pe_bm PySem.F.plainAttrs_list PySem.F.slot_list_extend PySem.F.type_list_extend mt_extend (pv 4) (pa_cons (pe_lc (own := [("member", 9)]) (g := gName 9) (tt := _) rfl sc_folded.nd (RT.pi_revA (by rfl) m_reversed (pe_ix (ix_tupK (K := K)) (pv 5) pe_int (fun _ _ => rfl))) (blkOk_by (N := n_folded) (sc := defScope s_folded) (by decide +kernel)) (fun _ _ _ _ _ => (pg_name (i := 9) sc_folded.nd rfl (.inl rfl))) (fun _ _ _ _ _ => pts_nil) (fun _ _ _ _ _ => (pe_tup (pa_cons (pv 9) (pa_cons pe_bl pa_nil))))) pa_nil)))))))))))
  (pss_one (ps_ret (pe_ix (ix_listK (K := K)) (pv 3) pe_int (fun _ _ => rfl))))))), ?_⟩
  have sz : sizeLine = 16777216 := sizeLine_eq
  refine ⟨(by show 0 ≤ sizeLine; exact Nat.zero_le _), fun D nD => ⟨_, rfl, (by show 2 ≤ sizeLine; omega), fun T0 nT => ⟨(by show 1 ≤ sizeLine; omega), fun L nL => ?_⟩⟩⟩
  have hTD : T0 ≠ D := fun z => by
    rw [z, upd_same] at nT
    cases nT
  have nT0 : H T0 = none := by rw [upd_ne hTD] at nT; exact nT
  have hLT : L ≠ T0 := fun z => by
    rw [z, upd_same] at nL
    cases nL
  have hLD : L ≠ D := fun z => by
    rw [upd_ne hLT, z, upd_same] at nL
    cases nL
  have nL0 : H L = none := by rw [upd_ne hLT, upd_ne hLD] at nL; exact nL
  have dS : D ∉ S := hk.off nD
  have lS : L ∉ S := hk.off nL0
  have e0 : Ex H (upd (upd (upd H D (.lst [])) T0 (.tup [v, .bl false])) L (.lst [.ref T0])) := ((Ex.new nD).trans (Ex.new nT)).trans (Ex.new nL)
  have kn2 : ∀ {H2 : Hp} {b : Addr} {o u : HO}, Kn S H2 → H2 b = some u → Kn S (upd H2 b o) := fun {H2 b o u} k e x hx => by
    by_cases z : x = b
    · rw [z]
      exact ⟨_, upd_same⟩
    · rw [upd_ne z]
      exact k x hx
  have offL : ∀ {H2 : Hp} {b : Addr} {ys zs : List V}, H2 b = some (.lst ys) → ∀ {a : Addr} {xs : List V}, SqT K (hide S H2) a xs → SqT K (hide S (upd H2 b (.lst zs))) a xs := fun {H2 b ys zs} e {a xs} g => sqt_off e g
  refine ⟨WFold K S H D L f1 f2 v t val, ⟨_, [], [.ref T0], [], [(t, false)], none, none, none, none, none, rfl, ?_, upd_same, .nil, ?_, .todo .fin, But.of e0, hk.ex e0, rfl, ?_⟩, ?_⟩
  · rw [upd_ne hLD.symm, upd_ne hTD.symm, upd_same]
  · refine .cons ⟨T0, v, rfl, ?_, hv.but (But.of e0)⟩ .nil
    exact Evl.ex_t (But.of (S := S) (Ex.new nL)) (SqT.of (hide_new (hk.ex (Ex.new nD)) nT))
  · show 0 + ((if false = true then 1 else 2 * t.pre.length) + 0) ≤ 20000
    rw [if_neg Bool.false_ne_true]
    omega
  rintro m σ H1 ⟨xs, ys, ds, st, y5, y6, y7, y8, y9, rfl, hD, hL, hds, hst, hg, b1, k1, rfl, hm⟩
  refine ⟨_, rfl, ?_⟩
  have lds := Paired.length hds
  cases hg with
  | fin =>
    cases hst
    refine ⟨false, .inl ⟨[], SqL.of hL, rfl⟩, iteF ?_⟩
    cases hds with
    | @cons x _ _ _ hx hr =>
      cases hr
      refine ⟨_, rfl, D, [x], _, _, rfl, rfl, SqL.of hD, rfl, ?_⟩
      exact q x H1 hx b1 k1
  | @todo u r _ hg =>
    rw [List.reverse_cons] at hst
    obtain ⟨zs, y, rfl, hzs, a, p, rfl, hp, hu⟩ := pair_last hst
    have hm' : ds.length + (2 * u.pre.length + mu r) ≤ 20000 := hm
    have pp := pre_pos u
    have lz := Paired.length hzs
    rw [List.length_reverse] at lz
    have lr := mu_len r
    refine ⟨true, .inl ⟨zs ++ [.ref a], SqL.of hL, by simp⟩, iteT ⟨fun σ' H' => ∃ m', m' < mu ((u, false) :: r) ∧ WFold K S H D L f1 f2 v t val m' σ' H', fun σ' H' h => h, ?_⟩⟩
    refine ⟨_, rfl, .inl ⟨rfl, _, SqL.of hL⟩, L, _, .ref a, rfl, rfl, hL, by simp, ?_⟩
    rw [List.dropLast_concat]
    have off2 : ∀ {c : Addr} {ws : List V}, SqT K (hide S H1) c ws → SqT K (hide S (upd H1 L (.lst zs))) c ws := fun g => offL hL g
    have hD2 : (upd H1 L (.lst zs)) D = some (.lst xs) := by rw [upd_ne hLD.symm]; exact hD
    have hL2 : (upd H1 L (.lst zs)) L = some (.lst zs) := upd_same
    have b2 : But S H (upd H1 L (.lst zs)) := b1.mut nL0
    have k2 : Kn S (upd H1 L (.lst zs)) := kn2 k1 hL
    have u2 := TmV.to off2 _ _ hu
    have ds2 := pair_map (fun x u => vst u x _ _ off2) hds
    have zs2 := pair_map (fun y it => TdV.to (it := it) (y := y) off2) hzs
    have hp2 := off2 hp
    generalize upd H1 L (.lst zs) = H2 at off2 hD2 hL2 b2 k2 u2 ds2 zs2 hp2 ⊢
    refine ⟨a, [p, .bl false], rfl, Evl.ex_t hide_ex hp2, rfl, p, [.bl false], rfl, .bl false, [], rfl, rfl, ?_⟩
    cases u2 with
    | @var c k u g1 g2 g3 =>
      refine ⟨_, rfl, c, _, _, _, rfl, rfl, Evl.ex_t hide_ex g1, rfl, rfl, _, rfl, iteT ?_⟩
      obtain ⟨fd1, fa1, G1, B1⟩ := F1
      refine ⟨_, rfl, .inl ⟨rfl, _, SqL.of hD2⟩, f1, fd1, ps1, sp1, rfl, fa1, G1, B1, _, rfl, c1 k _ H2 _ ((good_all hg).2 _ (by simp)) b2 k2 (.var g1 g2 g3) fun x H3 hx b3 k3 => ?_⟩
      have hD3 : H3 D = some (.lst xs) := b3.get dS hD2
      have hL3 : H3 L = some (.lst zs) := b3.get lS hL2
      refine ⟨D, xs, x, rfl, rfl, hD3, by omega, ?_⟩
      have off4 : ∀ {c : Addr} {ws : List V}, SqT K (hide S H3) c ws → SqT K (hide S (upd H3 D (.lst (xs ++ [x])))) c ws := fun g => offL hD3 g
      have off5 : ∀ {c : Addr} {ws : List V}, SqT K (hide S H2) c ws → SqT K (hide S (upd H3 D (.lst (xs ++ [x])))) c ws := fun g => offL hD3 (Evl.ex_t b3 g)
      refine ⟨mu r, ?_, xs ++ [x], zs, ds ++ [.var k], r, _, _, _, _, _, rfl, upd_same, ?_, pairApp (pair_map (fun x u => vst u x _ _ off5) ds2) (.cons (vst _ x _ _ off4 hx) .nil), pair_map (fun y it => TdV.to (it := it) (y := y) off5) zs2, hg, (b2.trans b3).mut nD, kn2 k3 hD3, rfl, ?_⟩
      · show mu r < (if false = true then 1 else 2 * (Tm.var k).pre.length) + mu r
        rw [if_neg Bool.false_ne_true]
        omega
      · rw [upd_ne hLD]
        exact hL3
      · rw [List.length_append, List.length_singleton]
        omega
    | @of c b x us ws g1 g2 g3 g4 =>
      refine ⟨_, rfl, c, _, _, _, rfl, rfl, Evl.ex_t hide_ex g1, rfl, rfl, _, rfl, iteF ⟨_, rfl, _, rfl, iteF ?_⟩⟩
      refine ⟨_, rfl, .inl ⟨rfl, _, SqL.of hL2⟩, _, rfl, ⟨(by show 2 ≤ sizeLine; omega), fun T1 nT1 => ?_⟩⟩
      have n1L : L ≠ T1 := ne_of_none hL2 nT1
      have n1D : D ≠ T1 := ne_of_none hD2 nT1
      have hL3 : (upd H2 T1 (.tup [.ref c, .bl true])) L = some (.lst zs) := by rw [upd_ne n1L]; exact hL2
      refine ⟨L, zs, .ref T1, rfl, rfl, hL3, by omega, ?_⟩
      have b3 : But S H2 (upd H2 T1 (.tup [.ref c, .bl true])) := But.of (Ex.new nT1)
      have off4 : ∀ {d : Addr} {ws : List V}, SqT K (hide S H2) d ws → SqT K (hide S (upd (upd H2 T1 (.tup [.ref c, .bl true])) L (.lst (zs ++ [.ref T1])))) d ws := fun g => offL hL3 (Evl.ex_t b3 g)
      have hT4 : SqT K (hide S (upd (upd H2 T1 (.tup [.ref c, .bl true])) L (.lst (zs ++ [.ref T1])))) T1 [.ref c, .bl true] := offL hL3 (SqT.of (hide_new k2 nT1))
      have hD4 : (upd (upd H2 T1 (.tup [.ref c, .bl true])) L (.lst (zs ++ [.ref T1]))) D = some (.lst xs) := by rw [upd_ne hLD.symm, upd_ne n1D]; exact hD2
      have hL4 : (upd (upd H2 T1 (.tup [.ref c, .bl true])) L (.lst (zs ++ [.ref T1]))) L = some (.lst (zs ++ [.ref T1])) := upd_same
      have b4 : But S H (upd (upd H2 T1 (.tup [.ref c, .bl true])) L (.lst (zs ++ [.ref T1]))) := (b2.trans b3).mut nL0
      have k4 : Kn S (upd (upd H2 T1 (.tup [.ref c, .bl true])) L (.lst (zs ++ [.ref T1]))) := kn2 (k2.ex (Ex.new nT1)) hL3
      generalize upd (upd H2 T1 (.tup [.ref c, .bl true])) L (.lst (zs ++ [.ref T1])) = H4 at off4 hT4 hD4 hL4 b4 k4 ⊢
      have g14 := off4 g1
      have g24 := off4 g2
      have g34 := TmVs.to off4 _ _ g3
      have lws := tmVs_len g3
      have ds4 := pair_map (fun x u => vst u x _ _ off4) ds2
      have zs4 := pair_map (fun y it => TdV.to (it := it) (y := y) off4) zs2
      refine ⟨_, rfl, .inl ⟨rfl, _, SqL.of hL4⟩, _, rfl, c, _, _, _, rfl, rfl, Evl.ex_t hide_ex g14, rfl, b, ws, rfl, .inr ⟨Evl.ex_t hide_ex g24, fun M nM => ?_⟩⟩
      have mS : M ∉ S := k4.off nM
      refine lc_ItvT (K := K) (a := b) (xs := ws) (fun j H' => ∃ acc, H' M = some (.lst acc) ∧ Paired (TdV K (hide S H')) acc ((us.reverse.take j).map fun u => (u, false)) ∧ But S H4 H' ∧ Kn S H')
        ⟨[], upd_same, .nil, But.of (Ex.new nM), k4.ex (Ex.new nM)⟩ (fun j H' h => by obtain ⟨_, _, _, h, _⟩ := h; exact Evl.ex_t hide_ex (Evl.ex_t h g24)) ?_ ?_
      · rintro j y H5 hj hy ⟨acc, hM, hac, b5, k5⟩
        refine ⟨rfl, ?_⟩
        refine ⟨_, rfl, ⟨(by show 2 ≤ sizeLine; omega), fun T2 nT2 => ?_⟩⟩
        have n2M : M ≠ T2 := ne_of_none hM nT2
        have hM6 : (upd H5 T2 (.tup [y, .bl false])) M = some (.lst acc) := by rw [upd_ne n2M]; exact hM
        have lac := Paired.length hac
        rw [List.length_map, List.length_take, List.length_reverse] at lac
        have b6 : But S H5 (upd H5 T2 (.tup [y, .bl false])) := But.of (Ex.new nT2)
        have off6 : ∀ {d : Addr} {vs : List V}, SqT K (hide S H5) d vs → SqT K (hide S (upd (upd H5 T2 (.tup [y, .bl false])) M (.lst (acc ++ [.ref T2])))) d vs := fun g => offL hM6 (Evl.ex_t b6 g)
        obtain ⟨u', r', e1, hu', _⟩ := tmVs_get (ts := us.reverse) (tmVs_rev g34) (show ws.reverse[j]? = some y by rw [List.getElem?_reverse hj]; exact hy)
        have z : (us.reverse.drop j)[0]? = some u' := by rw [e1]; rfl
        rw [List.getElem?_drop, Nat.add_zero] at z
        refine ⟨acc, hM6, by omega, acc ++ [.ref T2], upd_same, ?_, (b5.trans b6).mut nM, kn2 (k5.ex (Ex.new nT2)) hM6⟩
        rw [List.take_succ, z, Option.toList_some, List.map_append]
        exact pairApp (pair_map (fun y it => TdV.to (it := it) (y := y) off6) hac) (.cons ⟨T2, y, rfl, offL hM6 (SqT.of (hide_new k5 nT2)), TmV.to off6 _ _ (hu'.but b5)⟩ .nil)
      · rintro H5 ⟨acc, hM, hac, b5, k5⟩
        have hL5 := b5.get lS hL4
        have hD5 := b5.get dS hD4
        rw [lws, List.take_of_length_le (by rw [List.length_reverse]; exact Nat.le_refl _)] at hac
        have lac := Paired.length hac
        rw [List.length_map, List.length_reverse] at lac
        refine ⟨L, M, zs ++ [.ref T1], acc, rfl, rfl, hL5, hM, by rw [List.length_append, List.length_singleton]; omega, ?_⟩
        have off6 : ∀ {d : Addr} {ws : List V}, SqT K (hide S H5) d ws → SqT K (hide S (upd H5 L (.lst ((zs ++ [.ref T1]) ++ acc)))) d ws := fun g => offL hL5 g
        have off7 : ∀ {d : Addr} {ws : List V}, SqT K (hide S H4) d ws → SqT K (hide S (upd H5 L (.lst ((zs ++ [.ref T1]) ++ acc)))) d ws := fun g => offL hL5 (Evl.ex_t b5 g)
        have gp := good_push hg us [] rfl
        rw [List.append_nil] at gp
        have emu : mu (us.map (fun u => (u, false)) ++ (Tm.of x us, true) :: r) = 2 * (Tm.pres us).length + (1 + mu r) := by
          rw [mu_app, mu_map]
          rfl
        have epr : (Tm.of x us).pre.length = (Tm.pres us).length + 1 := rfl
        refine ⟨_, ?_, xs, (zs ++ [.ref T1]) ++ acc, ds, us.map (fun u => (u, false)) ++ (Tm.of x us, true) :: r, _, _, _, _, _, rfl, ?_, upd_same, pair_map (fun x u => vst u x _ _ off7) ds4, ?_, gp, (b4.trans b5).mut nL0, kn2 k5 hL5, rfl, ?_⟩
        · show _ < (if false = true then 1 else 2 * (Tm.of x us).pre.length) + mu r
          rw [if_neg Bool.false_ne_true, emu]
          omega
        · rw [upd_ne hLD.symm]
          exact hD5
        · rw [List.reverse_append, List.reverse_cons, ← List.map_reverse]
          refine pairApp (pairApp (pair_map (fun y it => TdV.to (it := it) (y := y) off7) zs4) (.cons ⟨T1, .ref c, rfl, off7 hT4, .of (off7 g14) (off7 g24) (TmVs.to off7 _ _ g34) g4⟩ .nil)) (pair_map (fun y it => TdV.to (it := it) (y := y) off6) hac)
        · rw [emu]
          omega
  | @made x us r ds hg =>
    rw [List.reverse_cons] at hst
    obtain ⟨zs, y, rfl, hzs, a, p, rfl, hp, hu⟩ := pair_last hst
    obtain ⟨xs0, xs1, rfl, hx0, hx1⟩ := pair_split hds
    have hm' : (ds ++ us).length + (1 + mu r) ≤ 20000 := hm
    have lz := Paired.length hzs
    rw [List.length_reverse] at lz
    have lr := mu_len r
    have l0 := Paired.length hx0
    have l1 := Paired.length hx1
    rw [List.length_append] at hm'
    refine ⟨true, .inl ⟨zs ++ [.ref a], SqL.of hL, by simp⟩, iteT ⟨fun σ' H' => ∃ m', m' < mu ((.of x us, true) :: r) ∧ WFold K S H D L f1 f2 v t val m' σ' H', fun σ' H' h => h, ?_⟩⟩
    refine ⟨_, rfl, .inl ⟨rfl, _, SqL.of hL⟩, L, _, .ref a, rfl, rfl, hL, by simp, ?_⟩
    rw [List.dropLast_concat]
    have off2 : ∀ {c : Addr} {ws : List V}, SqT K (hide S H1) c ws → SqT K (hide S (upd H1 L (.lst zs))) c ws := fun g => offL hL g
    have hD2 : (upd H1 L (.lst zs)) D = some (.lst (xs0 ++ xs1)) := by rw [upd_ne hLD.symm]; exact hD
    have hL2 : (upd H1 L (.lst zs)) L = some (.lst zs) := upd_same
    have b2 : But S H (upd H1 L (.lst zs)) := b1.mut nL0
    have k2 : Kn S (upd H1 L (.lst zs)) := kn2 k1 hL
    have u2 := TmV.to off2 _ _ hu
    have d0 := pair_map (fun x u => vst u x _ _ off2) hx0
    have d1 := pair_map (fun x u => vst u x _ _ off2) hx1
    have zs2 := pair_map (fun y it => TdV.to (it := it) (y := y) off2) hzs
    have hp2 := off2 hp
    generalize upd H1 L (.lst zs) = H2 at off2 hD2 hL2 b2 k2 u2 d0 d1 zs2 hp2 ⊢
    refine ⟨a, [p, .bl true], rfl, Evl.ex_t hide_ex hp2, rfl, p, [.bl true], rfl, .bl true, [], rfl, rfl, ?_⟩
    have u2' := u2
    cases u2 with
    | @of c b _ _ ws g1 g2 g3 g4 =>
      have lws := tmVs_len g3
      refine ⟨_, rfl, c, _, _, _, rfl, rfl, Evl.ex_t hide_ex g1, rfl, rfl, _, rfl, iteF ⟨_, rfl, _, rfl, iteT ?_⟩⟩
      refine ⟨_, rfl, D, _, rfl, .inl (SqL.of hD2), _, rfl, c, _, _, _, rfl, rfl, Evl.ex_t hide_ex g1, rfl, b, ws, rfl, .inr (Evl.ex_t hide_ex g2), _, _, rfl, rfl, ?_⟩
      have ei : ((xs0 ++ xs1).length : Int) - (ws.length : Int) = (xs0.length : Int) := by
        rw [List.length_append]
        omega
      dsimp only
      rw [ei]
      have ecut : cutV (xs0 ++ xs1) (some (xs0.length : Int)) none = xs1 := by
        unfold cutV
        rw [HT.sIx_nat, HT.sIx_none, Nat.min_eq_left (by rw [List.length_append]; omega), List.drop_left, List.take_of_length_le (by rw [List.length_append]; omega)]
      refine ⟨_, rfl, _, rfl, _, rfl, D, _, rfl, SqL.of hD2, fun M nM => ?_⟩
      rw [ecut]
      refine ⟨M, xs1, rfl, .inl ⟨SqL.of upd_same, fun T1 nT1 => ?_⟩⟩
      have hTM : T1 ≠ M := fun z => by
        rw [z, upd_same] at nT1
        cases nT1
      have nT2 : H2 T1 = none := by rw [upd_ne hTM] at nT1; exact nT1
      have hDM : D ≠ M := ne_of_none hD2 nM
      have hDT : D ≠ T1 := ne_of_none hD2 nT2
      have hLM : L ≠ M := ne_of_none hL2 nM
      have hLT1 : L ≠ T1 := ne_of_none hL2 nT2
      have x23 : Ex H2 (upd (upd H2 M (.lst xs1)) T1 (.tup xs1)) := (Ex.new nM).trans (Ex.new nT1)
      have b23 : But S H2 (upd (upd H2 M (.lst xs1)) T1 (.tup xs1)) := But.of x23
      have hD3 : (upd (upd H2 M (.lst xs1)) T1 (.tup xs1)) D = some (.lst (xs0 ++ xs1)) := by rw [upd_ne hDT, upd_ne hDM]; exact hD2
      refine ⟨_, rfl, _, rfl, _, rfl, D, xs0 ++ xs1, xs0.length, rfl, rfl, hD3, by rw [List.length_append]; omega, ?_⟩
      rw [List.take_left]
      have off4 : ∀ {d : Addr} {vs : List V}, SqT K (hide S H2) d vs → SqT K (hide S (upd (upd (upd H2 M (.lst xs1)) T1 (.tup xs1)) D (.lst xs0))) d vs := fun g => offL hD3 (Evl.ex_t b23 g)
      have hT4 : SqT K (hide S (upd (upd (upd H2 M (.lst xs1)) T1 (.tup xs1)) D (.lst xs0))) T1 xs1 := offL hD3 (SqT.of (hide_new (k2.ex (Ex.new nM)) nT1))
      have hD4 : (upd (upd (upd H2 M (.lst xs1)) T1 (.tup xs1)) D (.lst xs0)) D = some (.lst xs0) := upd_same
      have hL4 : (upd (upd (upd H2 M (.lst xs1)) T1 (.tup xs1)) D (.lst xs0)) L = some (.lst zs) := by rw [upd_ne hLD, upd_ne hLT1, upd_ne hLM]; exact hL2
      have b4 : But S H (upd (upd (upd H2 M (.lst xs1)) T1 (.tup xs1)) D (.lst xs0)) := (b2.trans b23).mut nD
      have k4 : Kn S (upd (upd (upd H2 M (.lst xs1)) T1 (.tup xs1)) D (.lst xs0)) := kn2 (k2.ex x23) hD3
      generalize upd (upd (upd H2 M (.lst xs1)) T1 (.tup xs1)) D (.lst xs0) = H4 at off4 hT4 hD4 hL4 b4 k4 ⊢
      obtain ⟨fd2, fa2, G2, B2⟩ := F2
      refine ⟨_, rfl, .inl ⟨rfl, _, SqL.of hD4⟩, f2, fd2, ps2, sp2, rfl, fa2, G2, B2, _, rfl, _, rfl, c2 x us _ T1 xs1 H4 _ b4 k4 (TmV.to off4 _ _ u2') hT4 (pair_map (fun x u => vst u x _ _ off4) d1) fun y H5 hy b5 k5 => ?_⟩
      have hD5 : H5 D = some (.lst xs0) := b5.get dS hD4
      have hL5 : H5 L = some (.lst zs) := b5.get lS hL4
      refine ⟨D, xs0, y, rfl, rfl, hD5, by omega, ?_⟩
      have off6 : ∀ {c : Addr} {ws : List V}, SqT K (hide S H5) c ws → SqT K (hide S (upd H5 D (.lst (xs0 ++ [y])))) c ws := fun g => offL hD5 g
      have off7 : ∀ {c : Addr} {ws : List V}, SqT K (hide S H2) c ws → SqT K (hide S (upd H5 D (.lst (xs0 ++ [y])))) c ws := fun g => offL hD5 (Evl.ex_t b5 (off4 g))
      refine ⟨mu r, ?_, xs0 ++ [y], zs, ds ++ [.of x us], r, _, _, _, _, _, rfl, upd_same, ?_, pairApp (pair_map (fun x u => vst u x _ _ off7) d0) (.cons (vst _ y _ _ off6 hy) .nil), pair_map (fun y it => TdV.to (it := it) (y := y) off7) zs2, hg, (b4.trans b5).mut nD, kn2 k5 hD5, rfl, ?_⟩
      · show mu r < (if true = true then 1 else 2 * (Tm.of x us).pre.length) + mu r
        rw [if_pos rfl]
        omega
      · rw [upd_ne hLD]
        exact hL5
      · rw [List.length_append, List.length_singleton]
        omega
end
end L2.Vf.K14
/-! The functions that put_in hands to folded. -/
namespace L2.Vf.K14
open PySem PySem.Spec PyProof.Rows
open Evl (Ex Ev EvT EvL EvA)
open NdefX LamX
abbrev s_put_in : Stmt := top 8
/-- the lambda at this place of the call that a def returns -/
def lamAt (st : Stmt) (i : Nat) : Lm := match defBody st with
  | [.Return (some (.Call _ es _ _)) _] => match es[i]? with
    | some (.Lambda p b s pos) => ⟨p, b, s, pos⟩
    | _ => ⟨defArgs st, .Constant .none 0 ⟨0, 0, 0, 0⟩, defScope st, ⟨0, 0, 0, 0⟩⟩
  | _ => ⟨defArgs st, .Constant .none 0 ⟨0, 0, 0, 0⟩, defScope st, ⟨0, 0, 0, 0⟩⟩
abbrev l1_put_in : Lm := lamAt s_put_in 1
abbrev l2_put_in : Lm := lamAt s_put_in 2
theorem ns1 : NScope ["part", "table"] ["part"] ["table"] l1_put_in.scope := nscope_by (by decide +kernel)
theorem ns2 : NScope ["part", "members"] ["part", "members"] [] l2_put_in.scope := nscope_by (by decide +kernel)
/-- part -> table.get(part[1], part) -/
def spL1 (K : PySem.W.Frag) (w : World) (c' : Addr) (q : Str) (d : Addr) : Sp := fun vs H Q _ => ∃ (k : NestedKey) (p : V) (ks : List Mv), vs = [p] ∧ H c' = some (CodeO c' q) ∧ TmV K H (.var k) p ∧ Mx K H w d ks ∧ Q ((vM ks k).getD p) H
/-- part, members -> ("of", part[1], members) -/
def spL2 (K : PySem.W.Frag) (c' : Addr) (q : Str) : Sp := fun vs H Q _ => ∃ (y : Str) (us : List Tm) (p : V) (m : Addr), vs = [p, .ref m] ∧ H c' = some (CodeO c' q) ∧ TmV K H (.of y us) p ∧ ∀ t, H t = none → Q (.ref t) (upd H t (.tup [.str "of", .str y, .ref m]))
section
variable {P : Program} {w : World} {K : PySem.W.Frag} {mg : Str → Option Value} {base : Heap} {f c' : Addr} {q : Str} {cl : List (Str × Addr)} {pm ctv : Value}
theorem ok_l2 (ob : base.get? f = some (PySem.W.kla_obj "<lambda>" q l2_put_in.params l2_put_in.body l2_put_in.scope cl pm c' ctv)) (C : CellsB base cl [] []) :
    FnOk P w K mg base CX0 1 f (PySem.W.kla_fn "<lambda>" q l2_put_in.params l2_put_in.body l2_put_in.scope cl pm (.ref c') ctv) ["part", "members"] (spL2 K c' q) := by
  refine fn_lam (N := ["part", "members"]) (k := 0) (ws := []) ob ns2 C (fun vs H Q E h => ?_) (fun vs H Q E h => ?_) fun A outer s H vs Q E hr h => ?_
  · obtain ⟨_, _, _, _, rfl, _⟩ := h
    rfl
  · obtain ⟨_, _, _, _, _, h, _⟩ := h
    exact h
  obtain ⟨y, us, p, m, rfl, _, ht, hq⟩ := h
  refine ⟨_, (pe_tup (pa_cons pe_str (pa_cons (pe_ix (ix_tupK (K := K)) (pv 0) pe_int (fun _ _ => rfl)) (pa_cons (pv 1) pa_nil)))), ?_⟩
  cases ht with
  | @of a b _ _ ws g1 g2 g3 g4 =>
    exact ⟨_, rfl, a, _, _, _, rfl, rfl, g1, rfl, _, rfl, (by show 3 ≤ sizeLine; decide), fun t nt => hq t nt⟩
theorem ok_l1 {d : Addr} (ob : base.get? f = some (PySem.W.kla_obj "<lambda>" q l1_put_in.params l1_put_in.body l1_put_in.scope cl pm c' ctv)) (C : CellsB base cl ["table"] [some (.ref d)]) :
    FnOk P w K mg base CX0 1 f (PySem.W.kla_fn "<lambda>" q l1_put_in.params l1_put_in.body l1_put_in.scope cl pm (.ref c') ctv) ["part"] (spL1 K w c' q d) := by
  refine fn_lam (N := ["part", "table"]) (k := 0) (ws := [some (.ref d)]) ob ns1 C (fun vs H Q E h => ?_) (fun vs H Q E h => ?_) fun A outer s H vs Q E hr h => ?_
  · obtain ⟨_, _, _, rfl, _⟩ := h
    rfl
  · obtain ⟨_, _, _, _, h, _⟩ := h
    exact h
  obtain ⟨k, p, ks, rfl, _, ht, hm, hq⟩ := h
  refine ⟨_, (pe_mget2 (K := K) (w := w) (units40 hr) (pv 1) (pe_ix (ix_tupK (K := K)) (pv 0) pe_int (fun _ _ => rfl)) (pv 0) ⟨by rfl, by rfl, by rfl, by rfl⟩), ?_⟩
  cases ht with
  | @var a _ u g1 g2 g3 =>
    exact ⟨_, rfl, d, ks, rfl, hm, _, rfl, a, _, _, _, rfl, rfl, g1, rfl, _, rfl, ks, k, hm, g2, g3, hq⟩
end
end L2.Vf.K14
/-! put_in. -/
namespace L2.Vf.K14
open PySem PySem.Spec PyProof.Rows
open Evl (Ex Ev EvT EvL EvA)
open NdefX LamX
/-- a def of the text, its code object known -/
structure FunC (K : PySem.W.Frag) (x qual : Str) (st : Stmt) (f : Addr) (fd : FuncData) (c : Addr) : Prop where
  ex : ∃ (oc : Value) (od : Option Addr) (kV doc pm : Value) (an : Option Addr) (ct : Value) (osl : Array (Option Value)),
    fd = PySem.W.fnOf x qual (defArgs st) (defBody st) (defScope st) .none kV doc pm an (.ref c) ct ∧ K.lookup f = some ⟨oc, od, .func fd, osl⟩ ∧ PySem.W.codeIn K (.ref c) qual = true
  kp : PySem.W.keepIn K (.ref f) = true
theorem hide_nil (H : Hp) : hide [] H = H := by
  funext b
  unfold hide
  rw [if_neg (by simp)]
theorem puts_of {K : PySem.W.Frag} {H : Hp} {tb : Tb} : ∀ {us : List Tm} {xs : List V}, Paired (fun x u => TmV K H (Tm.put tb u) x) xs us → TmVs K H (Tm.puts tb us) xs
  | [], _, h => by cases h; exact .nil
  | u :: us, _, h => by
    cases h with
    | cons h1 h2 => exact .cons h1 (puts_of h2)
theorem puts_len (tb : Tb) : ∀ us : List Tm, (Tm.puts tb us).length = us.length
  | [] => rfl
  | u :: us => by
    show (Tm.puts tb us).length + 1 = us.length + 1
    rw [puts_len tb us]
abbrev n_put_in : List Str := ["term", "table"]
theorem sc_put_in : FnScope n_put_in ["term", "table"] (defScope s_put_in) := ⟨rfl, rfl, rfl, by decide +kernel, rfl, by decide +kernel, by decide +kernel⟩
def spPutIn (K : PySem.W.Frag) (w : World) (T : List (Addr × Str)) : Sp := fun vs H Q _ => ∃ (t : Tm) (v : V) (d : Addr) (ks : List Mv) (tb : Tb), vs = [v, .ref d] ∧ TmV K H t v ∧ t.pre.length ≤ 10000 ∧ Mx K H w d ks ∧ TbR K H ks tb ∧ Tabs T H ∧
  ∀ x H', TmV K H' (t.put tb) x → ExtN H H' → Tabs T H' → Q x H'
section
variable {P : Program} {w : World} {K : PySem.W.Frag} {mg : Str → Option Value} {base : Heap} {f c : Addr} {fd : FuncData}
theorem FunC.ok {x qual : Str} {st : Stmt} {N ps : List Str} {k : Nat} {sp : Sp} (F : FunC K x qual st f fd c) (S : FnScope N ps (defScope st)) (len : ∀ vs H Q E, sp vs H Q E → vs.length = ps.length)
    (hbody : ∀ (A : Around) (outer : List Env) (s : Shared) (H : Hp) (vs : List V) (Q : VK) (E : XK), Room k (A.deeper (envOfC qual (defScope st) s.heap.objs.size f (.ref c))) → sp vs H Q E →
      ∃ t, PSs (cxOf CX0 P w K mg base N qual (defScope st) f (.ref c) A outer s H E).nox (defBody st) t ∧ t { nx := fun _ H' => Q .non H', rt := Q } (start N vs) H) : FnOk P w K mg base CX0 (k + 1) f fd ps sp := by
  obtain ⟨oc, od, kV, doc, pm, an, ct, osl, rfl, lk, hcd⟩ := F.ex
  refine fn_of lk hcd S len fun A outer s H vs Q E hr hsp => ?_
  obtain ⟨t, h, q⟩ := hbody A outer s H vs Q E hr hsp
  exact ⟨t, h.nox, q⟩
theorem ok_put_in {fg Pt : Addr} {fdg : FuncData} {T : List (Addr × Str)} (F : FunC K "put_in" "put_in" s_put_in f fd c) (G : ∀ b : Heap, K.In b → b.Ns mainGlobals mg → FnOk P w K mg b CX0 2 fg fdg ["term", "of_variable", "of_made"] (spFolded P w K mg 1 b))
    (m_folded : mg "folded" = some (.ref fg)) (k_folded : PySem.W.keepIn K (.ref fg) = true) (b_folded : Binds K fdg ["term", "of_variable", "of_made"] []) (TB : TabB base mg c Pt)
    (hmT : (Pt, (envOfC "put_in" (defScope s_put_in) 0 0 .none).qual ++ "<lambda>") ∈ T) (hu : ∀ p ∈ T, p.1 = Pt → p.2 = (envOfC "put_in" (defScope s_put_in) 0 0 .none).qual ++ "<lambda>") :
    FnOk P w K mg base CX0 3 f fd ["term", "table"] (spPutIn K w T) := by
  refine F.ok (k := 2) sc_put_in (fun vs H Q E h => ?_) (fun A outer s H vs Q E hr h => ?_)
  · obtain ⟨_, _, _, _, _, rfl, _⟩ := h
    rfl
  obtain ⟨t, v, d, ks, tb, rfl, hv, hl, hm, htb, hT, q⟩ := h
  have nb1 : ndefB (defScope s_put_in) l1_put_in.scope ["table"] = true := by decide +kernel
  have nb2 : ndefB (defScope s_put_in) l2_put_in.scope [] = true := by decide +kernel
  refine ⟨_, (pss_one (ps_ret (pe_fold2 (l1 := l1_put_in) (l2 := l2_put_in) (fr1 := ["table"]) (js1 := [1]) (fr2 := []) (js2 := []) (T := T) (CX := CX0) (k := 2) (E := E0) (spG := spFolded P w K mg 1) G hr (by rfl) m_folded k_folded b_folded pass0 (pv 0) TB rfl hmT hu
    ⟨by rfl, ndef_free nb1, fun _ _ _ => rfl, ndef_fr nb1, by rfl⟩ ⟨by rfl, ndef_free nb2, fun _ _ _ => rfl, ndef_fr nb2, by rfl⟩))), ?_⟩
  refine ⟨v, rfl, hT, fun b f1 f2 H2 eN T2 kb nb M1 M2 => ?_⟩
  obtain ⟨⟨a1, p1, t1, o1, co1⟩, C1⟩ := M1
  obtain ⟨⟨a2, p2, t2, o2, co2⟩, C2⟩ := M2
  have up : ∀ {a : Addr} {xs : List V}, SqT K H a xs → SqT K H2 a xs := fun {a xs} g => by
    rcases g with (g | ⟨o, g⟩) | g
    · exact .inl (.inl (eN _ _ g (by intro _ z; cases z)))
    · exact .inl (.inr ⟨o, eN _ _ g (by intro _ z; cases z)⟩)
    · exact .inr g
  have v2 : TmV K H2 t v := TmV.to up _ _ hv
  have tb2 : TbR K H2 ks tb := tbR_mono up htb
  have m2 : Mx K H2 w d ks := by
    refine ⟨?_, fun p hp => ⟨KeyV.to up _ _ (hm.key p hp).1, (hm.key p hp).2⟩, hm.one, hm.len, hm.sys⟩
    rcases hm.obj with g | ⟨od, g⟩
    · exact .inl (eN _ _ g (by intro _ z; cases z))
    · exact .inr ⟨od, eN _ _ g (by intro _ z; cases z)⟩
  have ex3 : ∀ {H3 : Hp}, But [] H2 H3 → Ex H2 H3 := fun {H3} b3 b o h => by
    have z := b3 b o (by rw [hide_nil]; exact h)
    rwa [hide_nil] at z
  refine ⟨[], t, v, f1, f2, ["part"], ["part", "members"], spL1 K w a1 _ d, spL2 K a2 _, fun u x H' => TmV K H' (u.put tb) x, rfl,
    ⟨_, ⟨_, _, _, _, o1⟩, ok_l1 o1 C1, .all fun us hl => match us, hl with | [_], _ => rfl⟩, ⟨_, ⟨_, _, _, _, o2⟩, ok_l2 o2 C2, .all fun us hl => match us, hl with | [_, _], _ => rfl⟩, by rw [hide_nil]; exact v2, (fun b hb => by cases hb), hl, ?_, ?_, ?_, ?_⟩
  · intro u x H3 H4 e h
    refine TmV.to (fun g => ?_) _ _ h
    rw [← hide_nil H4]
    exact e (by rw [hide_nil]; exact g)
  · intro k p H3 Q1 _ b3 k3 hp hq
    rw [hide_nil] at hp
    have e := ex3 b3
    refine ⟨k, p, ks, rfl, e _ _ co1, hp, Mx.mono e m2, hq _ H3 ?_ But.refl k3⟩
    show TmV K H3 ((tLook tb k).getD (.var k)) ((vM ks k).getD p)
    rcases tbR_look (tbR_mono (fun g => Evl.ex_t e g) tb2) k with ⟨e1, e2⟩ | ⟨v', t', e1, e2, h⟩
    · rw [e1, e2]
      exact hp
    · rw [e1, e2]
      exact h
  · intro y us p m xs H3 Q1 b3 k3 hp hm3 hxs hq
    rw [hide_nil] at hp hm3
    have e := ex3 b3
    refine ⟨y, us, p, m, rfl, e _ _ co2, hp, fun tt nt => hq _ _ ?_ (But.of (Ex.new nt)) (fun b hb => by cases hb)⟩
    have l10 : us.length ≤ 10 := by
      cases hp with
      | of _ _ _ g4 => exact g4
    show TmV K _ (.of y (Tm.puts tb us)) _
    exact .of (SqT.of upd_same) (Evl.ex_t (Ex.new nt) hm3) (TmVs.to (fun g => Evl.ex_t (Ex.new nt) g) _ _ (puts_of hxs)) (by rw [puts_len]; exact l10)
  · intro x H3 hx b3 k3
    have e := ex3 b3
    exact q x H3 hx (fun b o h n => e _ _ (eN b o h n)) (Tabs.ext T2 e)
end
end L2.Vf.K14
/-! Words and numbers. -/
namespace L2.Vf.K14
open PySem PySem.Spec PyProof.Rows
open Evl (Ex Ev EvT EvL EvA)
abbrev s_is_word : Stmt := top 4
abbrev s_is_number : Stmt := top 5
theorem occ_let : ∀ j, j < 26 → (!(Builtin.Str.occurrences ("abcdefghijklmnopqrstuvwxyz" : Str) ⟨#[97 + j]⟩ 0 ("abcdefghijklmnopqrstuvwxyz" : Str).length 1).isEmpty) = true := by decide +kernel
theorem occ_dig : ∀ j, j < 10 → (!(Builtin.Str.occurrences ("0123456789" : Str) ⟨#[48 + j]⟩ 0 ("0123456789" : Str).length 1).isEmpty) = true := by decide +kernel
theorem in_let {c : Nat} (h : letC c = true) : (!(Builtin.Str.occurrences ("abcdefghijklmnopqrstuvwxyz" : Str) ⟨#[c]⟩ 0 ("abcdefghijklmnopqrstuvwxyz" : Str).length 1).isEmpty) = true := by
  unfold letC at h
  simp only [Bool.and_eq_true, decide_eq_true_eq] at h
  have z := occ_let (c - 97) (by omega)
  rwa [show 97 + (c - 97) = c by omega] at z
theorem in_sign {c : Nat} (h : okC c = true) : (!(Builtin.Str.occurrences ("abcdefghijklmnopqrstuvwxyz" : Str) ⟨#[c]⟩ 0 ("abcdefghijklmnopqrstuvwxyz" : Str).length 1).isEmpty) = true ∨
    (!(Builtin.Str.occurrences ("0123456789" : Str) ⟨#[c]⟩ 0 ("0123456789" : Str).length 1).isEmpty) = true := by
  unfold okC at h
  simp only [Bool.or_eq_true, Bool.and_eq_true, decide_eq_true_eq] at h
  rcases h with h | h
  · exact .inl (in_let (by unfold letC; simp only [Bool.and_eq_true, decide_eq_true_eq]; exact h))
  · have z := occ_dig (c - 48) (by omega)
    rw [show 48 + (c - 48) = c by omega] at z
    exact .inr z
def spTrueW : Sp := fun vs H Q _ => ∃ x : Str, vs = [.str x] ∧ WordOk 12 x ∧ ∀ H', Ex H H' → Q (.bl true) H'
def spTrueN : Sp := fun vs H Q _ => ∃ n : Nat, vs = [.int (n : Int)] ∧ ∀ H', Ex H H' → Q (.bl true) H'
theorem WordOk.head {n : Nat} {x : Str} (h : WordOk n x) : ∃ c, x.cps.toList[0]? = some c ∧ letC c = true := by
  obtain ⟨h1, _, h3⟩ := h
  have e : x.length = x.cps.toList.length := by show x.cps.size = _; simp
  cases hx : x.cps.toList with
  | nil =>
    rw [hx] at e
    rw [e] at h1
    cases h1
  | cons c r =>
    rw [hx] at h3
    exact ⟨c, rfl, (Bool.and_eq_true_iff.mp h3).1⟩
theorem WordOk.sign {n : Nat} {x : Str} (h : WordOk n x) {i c : Nat} (e : x.cps[i]? = some c) : okC c = true :=
  List.all_eq_true.mp (wOk_all h.2.2) c (List.mem_of_getElem? (i := i) (by rw [Array.getElem?_toList]; exact e))
section
variable {P : Program} {w : World} {K : PySem.W.Frag} {mg : Str → Option Value} {base : Heap} {f : Addr} {fd : FuncData}
abbrev n_is_word : List Str := ["value", "sign"]
theorem sc_is_word : FnScope n_is_word ["value"] (defScope s_is_word) := ⟨rfl, rfl, rfl, by decide +kernel, rfl, by decide +kernel, by decide +kernel⟩
theorem ok_is_word (F : Fun K "is_word" "is_word" s_is_word f fd) {t1 t2 t3 : Tok} (m_isinstance : mg "isinstance" = none) (m_str : mg "str" = none) (m_len : mg "len" = none) (m_all : mg "all" = none)
    (m_LETTERS : mg "LETTERS" = some (.str "abcdefghijklmnopqrstuvwxyz" t1)) (m_DIGITS : mg "DIGITS" = some (.str "0123456789" t2)) (m_LONGEST : mg "LONGEST" = some (.int 12 t3)) :
    FnOk P w K mg base CX0 1 f fd ["value"] spTrueW := by
  refine F.ok sc_is_word (fun vs H Q E h => ?_) (fun cdv A outer s H vs Q E hr h => ?_)
  · obtain ⟨x, rfl, _⟩ := h
    rfl
  obtain ⟨x, rfl, hw, q⟩ := h
  have hu := hu_of hr
  refine ⟨_, (pss_cons (ps_if (PW.pt (pw_or (pt_not (pt_val (pe_callB (call_isiK0 (K := K)) (by rfl) m_isinstance (by decide +kernel) (pa_cons (pv 0) (pa_cons (pe_bltn (v := .ty "str") (by rfl) m_str (by decide +kernel) rfl) pa_nil))))) (pw_or1 (pt_not (pt_chain op_le op_le pe_int (pe_callB call_len_str (by rfl) m_len PySem.boot_len (pa_cons (pv 0) pa_nil)) (pe_glob (v := .int 12) rfl m_LONGEST ⟨_, rfl⟩))))))
  (pss_one (ps_ret pe_bl))
  pss_nil)
  (pss_one (ps_ret (pe_and (pe_cmpR op_in_str (pe_ix ix_str (pv 0) pe_int (fun _ _ => rfl)) (pe_glob (v := .str "abcdefghijklmnopqrstuvwxyz") rfl m_LETTERS ⟨_, rfl⟩) (by rfl)) (pe_one (pe_callB (cr_allK (K := K) rfl) (by rfl) m_all (by decide +kernel) (pa_cons (pe_lc (own := [("sign", 1)]) (g := gName 1) (tt := _) rfl sc_is_word.nd (pi_str (pv 0)) (blkOk_by (N := n_is_word) (sc := defScope s_is_word) (by decide +kernel)) (fun _ _ _ _ _ => (pg_name (i := 1) sc_is_word.nd rfl (.inl rfl))) (fun _ _ _ _ _ => pts_nil) (fun _ _ _ _ _ => (pe_or (pe_cmpR op_in_str (pv 1) (pe_glob (v := .str "abcdefghijklmnopqrstuvwxyz") rfl m_LETTERS ⟨_, rfl⟩) (by rfl)) (pe_one (pe_cmpR op_in_str (pv 1) (pe_glob (v := .str "0123456789") rfl m_DIGITS ⟨_, rfl⟩) (by rfl)))))) pa_nil))))))), ?_⟩
  have l0 := hw.1
  have l12 := hw.2.1
  refine ⟨_, rfl, _, _, _, _, true, rfl, .ty _, .base (.str _), kit_ty (by decide +kernel), _, rfl, ite2 (fun z => by cases z) (fun _ => ?_)⟩
  have c1 : decide ((1 : Int) ≤ (x.length : Int)) = true := decide_eq_true (by omega)
  have c2 : decide ((x.length : Int) ≤ 12) = true := decide_eq_true (by omega)
  have hz : x.length ≤ sizeLine := Nat.le_of_lt (small1000 (by omega))
  obtain ⟨c, hc, lc⟩ := hw.head
  refine ⟨_, rfl, x, rfl, hz, _, _, rfl, rfl, _, rfl, ite2 (fun _ => ?_) (fun z => absurd c1 z)⟩
  refine ⟨_, _, rfl, rfl, _, rfl, ite2 (fun z => ?_) (fun _ => ?_)⟩
  · rw [c2] at z
    cases z
  dsimp only [tNext]
  refine ⟨_, rfl, _, _, c, rfl, rfl, hz, atI_nat (j := 0) hc, _, _, rfl, rfl, _, rfl, ite2 (fun _ => ?_) (fun z => absurd (in_let lc) z)⟩
  refine ⟨_, rfl, x, rfl, fun D nD => lc_true (walk_str (z := x)) nD (by show x.length ≤ 1000; omega) (fun _ _ => True.intro) ?_ ?_⟩
  · rintro i v H1 hi e1 ⟨ch, hch, rfl⟩ N M k
    refine ⟨rfl, _, rfl, _, _, rfl, rfl, _, rfl, ite2 (fun _ => k _ (Ex.refl _)) (fun z => ⟨_, rfl, _, _, rfl, rfl, ?_⟩)⟩
    rcases in_sign (hw.sign hch) with y | y
    · exact absurd y z
    · rw [y]
      exact k _ (Ex.refl _)
  · intro H1 e1 h1
    refine ⟨D, _, rfl, SqL.of h1, ?_⟩
    rw [all_rep]
    exact q H1 e1
abbrev n_is_number : List Str := ["value"]
theorem sc_is_number : FnScope n_is_number ["value"] (defScope s_is_number) := ⟨rfl, rfl, rfl, by decide +kernel, rfl, by decide +kernel, by decide +kernel⟩
theorem ok_is_number (F : Fun K "is_number" "is_number" s_is_number f fd) (m_isinstance : mg "isinstance" = none) (m_int : mg "int" = none) (m_bool : mg "bool" = none) :
    FnOk P w K mg base CX0 1 f fd ["value"] spTrueN := by
  refine F.ok sc_is_number (fun vs H Q E h => ?_) (fun cdv A outer s H vs Q E hr h => ?_)
  · obtain ⟨x, rfl, _⟩ := h
    rfl
  obtain ⟨n, rfl, q⟩ := h
  have hu := hu_of hr
  refine ⟨_, (pss_one (ps_ret (pe_and (pe_callB (call_isiK0 (K := K)) (by rfl) m_isinstance (by decide +kernel) (pa_cons (pv 0) (pa_cons (pe_bltn (v := .ty "int") (by rfl) m_int (by decide +kernel) rfl) pa_nil))) (pe_and (pe_not (pe_callB (call_isiK0 (K := K)) (by rfl) m_isinstance (by decide +kernel) (pa_cons (pv 0) (pa_cons (pe_bltn (v := .ty "bool") (by rfl) m_bool (by decide +kernel) rfl) pa_nil)))) (pe_one (pe_cmpR op_ge (pv 0) pe_int (nomark _))))))), ?_⟩
  have n0 : decide ((0 : Int) ≤ (n : Int)) = true := decide_eq_true (by omega)
  refine ⟨_, rfl, _, _, _, _, true, rfl, .ty _, .base (.int _), kit_ty (by decide +kernel), _, rfl, ite2 (fun _ => ?_) (fun z => absurd rfl z)⟩
  refine ⟨_, rfl, _, _, _, _, false, rfl, .ty _, .base (.int _), kit_ty (by decide +kernel), _, rfl, _, rfl, ite2 (fun _ => ?_) (fun z => absurd rfl z)⟩
  refine ⟨_, rfl, _, _, rfl, rfl, ?_⟩
  show Q (.bl (decide ((0 : Int) ≤ (n : Int)))) H
  rw [n0]
  exact q H (Ex.refl H)
end
end L2.Vf.K14
/-! Rows and tables of results. -/
namespace L2.Vf.K14
open PySem PySem.Spec PyProof.Rows
open Evl (Ex Ev EvT EvL EvA)
abbrev s_is_list : Stmt := top 13
abbrev s_is_row : Stmt := top 14
abbrev s_is_arguments : Stmt := top 18
abbrev s_is_table : Stmt := top 17
/-- a row: the things, the result -/
abbrev Rw := List Nat × Nat
def keyN (ns : List Nat) : NestedKey := .tup (ns.map fun n : Nat => NestedKey.num (n : Int))
def vN (ns : List Nat) : List V := ns.map fun n : Nat => V.int (n : Int)
def RowV (K : PySem.W.Frag) (H : Hp) (v : V) (r : Rw) : Prop := ∃ p b, v = .ref p ∧ SqT K H p [.ref b, .int (r.2 : Int)] ∧ SqT K H b (vN r.1)
theorem keyN_vs {K : PySem.W.Frag} {H : Hp} : ∀ ns : List Nat, KeyVs K H (ns.map fun n : Nat => NestedKey.num (n : Int)) (vN ns)
  | [] => .nil
  | n :: ns => .cons (.num _) (keyN_vs ns)
theorem keyN_v {K : PySem.W.Frag} {H : Hp} {ns : List Nat} {b : Addr} (h : SqT K H b (vN ns)) : KeyV K H (keyN ns) (.ref b) := .tup h (keyN_vs ns)
theorem num_inj : ∀ {a b : List Nat}, (a.map fun n : Nat => NestedKey.num (n : Int)) = (b.map fun n : Nat => NestedKey.num (n : Int)) → a = b
  | [], [], _ => rfl
  | [], _ :: _, h => by cases h
  | _ :: _, [], h => by cases h
  | x :: a, y :: b, h => by
    rw [List.map_cons, List.map_cons] at h
    injection h with h1 h2
    injection h1 with h1
    rw [num_inj h2, Int.ofNat.inj h1]
theorem keyN_inj {a b : List Nat} (h : keyN a = keyN b) : a = b := by
  unfold keyN at h
  injection h with h
  exact num_inj h
theorem depth_nums : ∀ ns : List Nat, NestedKey.depthAll (ns.map fun n : Nat => NestedKey.num (n : Int)) = 0
  | [] => rfl
  | n :: ns => by
    have ih := depth_nums ns
    simp only [List.map_cons, NestedKey.depthAll, NestedKey.depth, ih]
    rfl
theorem keyN_depth (ns : List Nat) : (keyN ns).depth ≤ 8 := by
  unfold keyN
  simp only [NestedKey.depth, depth_nums]
  omega
structure TabOk (rows : List Rw) : Prop where
  one : (rows.map (·.1)).Nodup
  len : rows.length ≤ 900
  ar : ∃ m, m ≤ 2 ∧ ∀ r ∈ rows, r.1.length = m
theorem RowV.mono {K : PySem.W.Frag} {H H' : Hp} {v : V} {r : Rw} (e : Ex H H') (h : RowV K H v r) : RowV K H' v r := by
  obtain ⟨p, b, h1, h2, h3⟩ := h
  exact ⟨p, b, h1, Evl.ex_t e h2, Evl.ex_t e h3⟩
theorem rows_at {K : PySem.W.Frag} {H : Hp} : ∀ {vs : List V} {rows : List Rw}, Paired (RowV K H) vs rows → ∀ {i : Nat} {x : V}, vs[i]? = some x → ∃ r, rows[i]? = some r ∧ RowV K H x r
  | _, _, .nil, i, x, h => by simp at h
  | _, _, .cons r t, 0, x, h => by
    obtain rfl := Option.some.inj h
    exact ⟨_, rfl, r⟩
  | _, _, .cons r t, i + 1, x, h => by
    obtain ⟨r', h1, h2⟩ := rows_at t (i := i) (by simpa using h)
    exact ⟨r', by simpa using h1, h2⟩
def spIsList (K : PySem.W.Frag) : Sp := fun vs H Q _ => ∃ (a : Addr) (xs : List V), vs = [.ref a] ∧ SqL K H a xs ∧ ∀ H', Ex H H' → Q (.bl true) H'
def spIsRow (K : PySem.W.Frag) : Sp := fun vs H Q _ => ∃ (a : Addr) (xs : List V), vs = [.ref a, .int (xs.length : Int)] ∧ SqT K H a xs ∧ ∀ H', Ex H H' → Q (.bl true) H'
def spIsArgs (K : PySem.W.Frag) : Sp := fun vs H Q _ => ∃ (a : Addr) (ns : List Nat), vs = [.ref a] ∧ SqT K H a (vN ns) ∧ ns.length ≤ 2 ∧ ∀ H', Ex H H' → Q (.bl true) H'
def spIsTable (K : PySem.W.Frag) : Sp := fun vs H Q _ => ∃ (a : Addr) (xs : List V) (rows : List Rw), vs = [.ref a] ∧ SqL K H a xs ∧ Paired (RowV K H) xs rows ∧ TabOk rows ∧ ∀ H', Ex H H' → Q (.bl true) H'
section
variable {P : Program} {w : World} {K : PySem.W.Frag} {mg : Str → Option Value} {base : Heap} {f : Addr} {fd : FuncData}
abbrev n_is_list : List Str := ["value"]
theorem sc_is_list : FnScope n_is_list ["value"] (defScope s_is_list) := ⟨rfl, rfl, rfl, by decide +kernel, rfl, by decide +kernel, by decide +kernel⟩
theorem ok_is_list (F : Fun K "is_list" "is_list" s_is_list f fd) (m_isinstance : mg "isinstance" = none) (m_list : mg "list" = none) (m_tuple : mg "tuple" = none) :
    FnOk P w K mg base CX0 1 f fd ["value"] (spIsList K) := by
  refine F.ok sc_is_list (fun vs H Q E h => ?_) (fun cdv A outer s H vs Q E hr h => ?_)
  · obtain ⟨a, xs, rfl, _⟩ := h
    rfl
  obtain ⟨a, xs, rfl, hx, q⟩ := h
  refine ⟨_, (pss_one (ps_ret (pe_callB (call_isiTK (K := K)) (by rfl) m_isinstance (by decide +kernel) (pa_cons (pv 0) (pa_cons (pe_tup (pa_cons (pe_bltn (v := .ty "list") (by rfl) m_list (by decide +kernel) rfl) (pa_cons (pe_bltn (v := .ty "tuple") (by rfl) m_tuple (by decide +kernel) rfl) pa_nil))) pa_nil))))), ?_⟩
  refine ⟨_, rfl, ⟨(by show (2 : Nat) ≤ sizeLine; decide), fun r nr => ⟨_, r, _, _, _, true, rfl, upd_same, .cons (.ty _) (.cons (.ty _) .nil), lst_ty (Evl.ex_l (Ex.new nr) hx), kitAny_cons (b := true) (kit_ty (by decide +kernel)) (fun z => by cases z) (fun _ => rfl), q _ (Ex.new nr)⟩⟩⟩
abbrev n_is_row : List Str := ["value", "many"]
theorem sc_is_row : FnScope n_is_row ["value", "many"] (defScope s_is_row) := ⟨rfl, rfl, rfl, by decide +kernel, rfl, by decide +kernel, by decide +kernel⟩
theorem ok_is_row (F : Fun K "is_row" "is_row" s_is_row f fd) (m_isinstance : mg "isinstance" = none) (m_len : mg "len" = none) (m_tuple : mg "tuple" = none) :
    FnOk P w K mg base CX0 1 f fd ["value", "many"] (spIsRow K) := by
  refine F.ok sc_is_row (fun vs H Q E h => ?_) (fun cdv A outer s H vs Q E hr h => ?_)
  · obtain ⟨a, xs, rfl, _⟩ := h
    rfl
  obtain ⟨a, xs, rfl, hx, q⟩ := h
  refine ⟨_, (pss_one (ps_ret (pe_and (pe_callB (call_isiK0 (K := K)) (by rfl) m_isinstance (by decide +kernel) (pa_cons (pv 0) (pa_cons (pe_bltn (v := .ty "tuple") (by rfl) m_tuple (by decide +kernel) rfl) pa_nil))) (pe_one (pe_cmpR op_eq (pe_callB (call_lenK (K := K)) (by rfl) m_len PySem.boot_len (pa_cons (pv 0) pa_nil)) (pv 1) (nomark _)))))), ?_⟩
  refine ⟨_, rfl, _, _, _, _, true, rfl, .ty _, tup_ty hx, kit_ty (by decide +kernel), _, rfl, ite2 (fun _ => ?_) (fun z => absurd rfl z)⟩
  refine ⟨_, rfl, a, xs, rfl, .inr hx, _, rfl, rfl, ?_⟩
  rw [decide_eq_true rfl]
  exact q H (Ex.refl H)
abbrev n_is_arguments : List Str := ["things", "thing"]
theorem sc_is_arguments : FnScope n_is_arguments ["things"] (defScope s_is_arguments) := ⟨rfl, rfl, rfl, by decide +kernel, rfl, by decide +kernel, by decide +kernel⟩
theorem ok_is_arguments (F : Fun K "is_arguments" "is_arguments" s_is_arguments f fd) (m_isinstance : mg "isinstance" = none) (m_len : mg "len" = none) (m_tuple : mg "tuple" = none) (m_all : mg "all" = none)
    (hn : Has P w K mg base 1 "is_number" ["value"] spTrueN) : FnOk P w K mg base CX0 2 f fd ["things"] (spIsArgs K) := by
  obtain ⟨f1, fd1, G_is_number, m_is_number, k_is_number, b_is_number⟩ := hn
  refine F.ok sc_is_arguments (fun vs H Q E h => ?_) (fun cdv A outer s H vs Q E hr h => ?_)
  · obtain ⟨a, xs, rfl, _⟩ := h
    rfl
  obtain ⟨a, ns, rfl, hx, l2, q⟩ := h
  have ln : (vN ns).length = ns.length := by unfold vN; rw [List.length_map]
  refine ⟨_, (pss_one (ps_ret (pe_and (pe_callB (call_isiK0 (K := K)) (by rfl) m_isinstance (by decide +kernel) (pa_cons (pv 0) (pa_cons (pe_bltn (v := .ty "tuple") (by rfl) m_tuple (by decide +kernel) rfl) pa_nil))) (pe_and (pe_cmpR op_le (pe_callB (call_lenK (K := K)) (by rfl) m_len PySem.boot_len (pa_cons (pv 0) pa_nil)) pe_int (nomark _)) (pe_one (pe_callB (cr_allK (K := K) rfl) (by rfl) m_all (by decide +kernel) (pa_cons (pe_lc (own := [("thing", 1)]) (g := gName 1) (tt := _) rfl sc_is_arguments.nd (pi_tup (pv 0)) (blkOk_by (N := n_is_arguments) (sc := defScope s_is_arguments) (by decide +kernel)) (fun _ _ _ _ _ => (pg_name (i := 1) sc_is_arguments.nd rfl (.inl rfl))) (fun _ _ _ _ _ => pts_nil) (fun _ _ _ _ _ => (pe_call G_is_number (hr.mono (by omega)) (by rfl) m_is_number k_is_number b_is_number .nil pass0 (pa_cons (pv 1) pa_nil)))) pa_nil))))))), ?_⟩
  refine ⟨_, rfl, _, _, _, _, true, rfl, .ty _, tup_ty hx, kit_ty (by decide +kernel), _, rfl, ite2 (fun _ => ?_) (fun z => absurd rfl z)⟩
  refine ⟨_, rfl, a, _, rfl, .inr hx, _, _, rfl, rfl, _, rfl, ite2 (fun _ => ?_) (fun z => absurd (decide_eq_true (by rw [ln]; omega)) z)⟩
  refine ⟨_, rfl, a, rfl, ⟨_, hx⟩, fun D nD => lc_true walk_tup nD (by rw [ln]; omega) (fun _ e => Evl.ex_t e hx) ?_ ?_⟩
  · rintro i v H1 hi e1 hv N M k
    have hv2 : (vN ns)[i]? = some v := hv
    unfold vN at hv2
    rw [List.getElem?_map] at hv2
    cases hi2 : ns[i]? with
    | none => rw [hi2] at hv2; cases hv2
    | some n =>
      rw [hi2] at hv2
      obtain rfl : V.int (n : Int) = v := Option.some.inj hv2
      exact ⟨rfl, _, rfl, n, rfl, fun H' e => k H' e⟩
  · intro H1 e1 h1
    refine ⟨D, _, rfl, SqL.of h1, ?_⟩
    rw [all_rep]
    exact q H1 e1
abbrev n_is_table : List Str := ["pairs", "different", "lengths", "pair"]
theorem sc_is_table : FnScope n_is_table ["pairs"] (defScope s_is_table) := ⟨rfl, rfl, rfl, by decide +kernel, rfl, by decide +kernel, by decide +kernel⟩
theorem ok_is_table (F : Fun K "is_table" "is_table" s_is_table f fd) (m_len : mg "len" = none) (m_all : mg "all" = none)
    (h1 : Has P w K mg base 1 "is_list" ["value"] (spIsList K)) (h2 : Has P w K mg base 1 "is_row" ["value", "many"] (spIsRow K)) (h3 : Has P w K mg base 2 "is_arguments" ["things"] (spIsArgs K))
    (hn : Has P w K mg base 1 "is_number" ["value"] spTrueN) : FnOk P w K mg base CX0 3 f fd ["pairs"] (spIsTable K) := by
  obtain ⟨f1, fd1, G_is_list, m_is_list, k_is_list, b_is_list⟩ := h1
  obtain ⟨f2, fd2, G_is_row, m_is_row, k_is_row, b_is_row⟩ := h2
  obtain ⟨f3, fd3, G_is_arguments, m_is_arguments, k_is_arguments, b_is_arguments⟩ := h3
  obtain ⟨f4, fd4, G_is_number, m_is_number, k_is_number, b_is_number⟩ := hn
  refine F.ok sc_is_table (fun vs H Q E h => ?_) (fun cdv A outer s H vs Q E hr h => ?_)
  · obtain ⟨a, xs, rows, rfl, _⟩ := h
    rfl
  obtain ⟨a, xs, rows, rfl, hx, hp, ok, q⟩ := h
  have ln : xs.length = rows.length := Paired.length hp
  have lr := ok.len
  refine ⟨_, (pss_cons (ps_if (pt_not (pt_val (pe_call G_is_list (hr.mono (by omega)) (by rfl) m_is_list k_is_list b_is_list .nil pass0 (pa_cons (pv 0) pa_nil))))
  (pss_one (ps_ret pe_bl))
  pss_nil)
  (pss_cons (ps_if (pt_not (pt_val (pe_callB (cr_allK (K := K) rfl) (by rfl) m_all (by decide +kernel) (pa_cons (pe_lc (own := [("pair", 3)]) (g := gName 3) (tt := _) rfl sc_is_table.nd (pi_list (pv 0)) (blkOk_by (N := n_is_table) (sc := defScope s_is_table) (by decide +kernel)) (fun _ _ _ _ _ => (pg_name (i := 3) sc_is_table.nd rfl (.inl rfl))) (fun _ _ _ _ _ => pts_nil) (fun _ _ _ _ _ => (pe_and (pe_call G_is_row (hr.mono (by omega)) (by rfl) m_is_row k_is_row b_is_row .nil pass0 (pa_cons (pv 3) (pa_cons pe_int pa_nil))) (pe_and (pe_call G_is_arguments (hr.mono (by omega)) (by rfl) m_is_arguments k_is_arguments b_is_arguments .nil pass0 (pa_cons (pe_ix (ix_tupK (K := K)) (pv 3) pe_int (fun _ _ => rfl)) pa_nil)) (pe_one (pe_call G_is_number (hr.mono (by omega)) (by rfl) m_is_number k_is_number b_is_number .nil pass0 (pa_cons (pe_ix (ix_tupK (K := K)) (pv 3) pe_int (fun _ _ => rfl)) pa_nil))))))) pa_nil))))
  (pss_one (ps_ret pe_bl))
  pss_nil)
  (pss_cons (ps_setDcM (i := 1) (K := K) (w := w) (own := [("pair", 3)]) (g := gName 3) (tt := _) (units40 hr) rfl sc_is_table.nd rfl rfl (sw_trueD rfl rfl rfl (by decide +kernel)) (pi_list (pv 0)) (blkOk_by (N := n_is_table) (sc := defScope s_is_table) (by decide +kernel)) (fun _ _ _ _ _ => (pg_name (i := 3) sc_is_table.nd rfl (.inl rfl))) (fun _ _ _ _ _ => pts_nil) (fun _ _ _ _ _ => (pe_ix (ix_tupK (K := K)) (pv 3) pe_int (fun _ _ => rfl))) (fun _ _ _ _ _ => pe_bl))
  (pss_cons (ps_setDcM (i := 2) (K := K) (w := w) (own := [("pair", 3)]) (g := gName 3) (tt := _) (units40 hr) rfl sc_is_table.nd rfl rfl (sw_trueD rfl rfl rfl (by decide +kernel)) (pi_list (pv 0)) (blkOk_by (N := n_is_table) (sc := defScope s_is_table) (by decide +kernel)) (fun _ _ _ _ _ => (pg_name (i := 3) sc_is_table.nd rfl (.inl rfl))) (fun _ _ _ _ _ => pts_nil) (fun _ _ _ _ _ => (pe_callB (call_lenK (K := K)) (by rfl) m_len PySem.boot_len (pa_cons (pe_ix (ix_tupK (K := K)) (pv 3) pe_int (fun _ _ => rfl)) pa_nil))) (fun _ _ _ _ _ => pe_bl))
  (pss_one (ps_ret (pe_and (pe_cmpR op_eq (pe_callB (call_lenM (K := K) (w := w)) (by rfl) m_len PySem.boot_len (pa_cons (pv 1) pa_nil)) (pe_callB (call_lenK (K := K)) (by rfl) m_len PySem.boot_len (pa_cons (pv 0) pa_nil)) (nomark _)) (pe_one (pe_cmpR op_le (pe_callB (call_lenM (K := K) (w := w)) (by rfl) m_len PySem.boot_len (pa_cons (pv 2) pa_nil)) pe_int (nomark _)))))))))), ?_⟩
  refine ⟨_, rfl, a, xs, rfl, hx, fun H1 e1 => ⟨_, rfl, ite2 (fun z => by cases z) (fun _ => ?_)⟩⟩
  dsimp only [tNext]
  refine ⟨_, rfl, a, rfl, ⟨_, Evl.ex_l e1 hx⟩, fun D nD => lc_true walk_list nD (by omega) (fun _ e => Evl.ex_l (Ex.trans e1 e) hx) ?_ ?_⟩
  · rintro i v H2 hi e2 hv N M k
    obtain ⟨r, hr, p, b, rfl, g1, g2⟩ := rows_at hp hv
    have e12 := Ex.trans e1 e2
    obtain ⟨m, m2, ar⟩ := ok.ar
    have lm := ar r (List.mem_of_getElem? hr)
    refine ⟨rfl, _, rfl, p, _, rfl, Evl.ex_t e12 g1, fun H3 e3 => ⟨_, rfl, ite2 (fun _ => ?_) (fun z => absurd rfl z)⟩⟩
    refine ⟨_, rfl, p, _, 0, _, rfl, rfl, Evl.ex_t (Ex.trans e12 e3) g1, rfl, b, r.1, rfl, Evl.ex_t (Ex.trans e12 e3) g2, (by omega), fun H4 e4 => ⟨_, rfl, ite2 (fun _ => ?_) (fun z => absurd rfl z)⟩⟩
    refine ⟨_, rfl, p, _, 1, _, rfl, rfl, Evl.ex_t (Ex.trans (Ex.trans e12 e3) e4) g1, rfl, r.2, rfl, fun H5 e5 => k H5 (Ex.trans e3 (Ex.trans e4 e5))⟩
  intro H2 e2 h2
  refine ⟨D, _, rfl, SqL.of h2, ?_⟩
  rw [all_rep]
  refine ⟨_, rfl, ite2 (fun z => by cases z) (fun _ => ?_)⟩
  dsimp only [tNext]
  have e12 := Ex.trans e1 e2
  refine ⟨_, rfl, a, rfl, ⟨_, Evl.ex_l e12 hx⟩, fun D1 nD1 sD1 => dcM_iv (fun i ks => ks.map (·.1) = (rows.take i).map fun r => keyN r.1) nD1 sD1 (Evl.ex_l e12 hx) (by omega) rfl ?_ ?_⟩
  · rintro i v H3 ks hv e3 iv N M k1 k2
    obtain ⟨r, hr, p, b, rfl, g1, g2⟩ := rows_at hp hv
    have e13 := Ex.trans e12 e3
    refine ⟨rfl, _, rfl, p, _, 0, _, rfl, rfl, Evl.ex_t e13 g1, rfl, ?_⟩
    refine k1 (keyN r.1) _ _ H3 (Ex.refl _) (keyN_v (Evl.ex_t e13 g2)) (keyN_depth _) ?_
    have new : keyN r.1 ∉ ks.map (·.1) := by
      rw [iv]
      intro z
      obtain ⟨r', h1, h2⟩ := List.mem_map.mp z
      obtain ⟨j, hj⟩ := List.mem_iff_getElem?.mp h1
      have lj := (List.getElem?_eq_some_iff.mp hj).1
      rw [List.length_take] at lj
      rw [List.getElem?_take_of_lt (by omega)] at hj
      have q1 : (rows.map (·.1))[j]? = some r'.1 := by rw [List.getElem?_map, hj]; rfl
      have q2 : (rows.map (·.1))[i]? = some r.1 := by rw [List.getElem?_map, hr]; rfl
      rw [← keyN_inj h2] at q2
      have := (List.getElem?_inj (List.getElem?_eq_some_iff.mp q1).1 ok.one).mp (q1.trans q2.symm)
      omega
    rw [pM_new new, List.map_append, iv, List.take_add_one, hr, List.map_append]
    rfl
  intro H3 ks1 e3 m1 o1 iv1 _
  have e13 := Ex.trans e12 e3
  obtain ⟨m, m2, ar⟩ := ok.ar
  refine ⟨_, rfl, a, rfl, ⟨_, Evl.ex_l e13 hx⟩, fun D2 nD2 sD2 => dcM_iv (fun i ks => ∀ k ∈ ks.map (·.1), k = .num (m : Int)) nD2 sD2 (Evl.ex_l e13 hx) (by omega) (fun k z => by cases z) ?_ ?_⟩
  · rintro i v H4 ks hv e4 iv N M k1 k2
    obtain ⟨r, hr, p, b, rfl, g1, g2⟩ := rows_at hp hv
    have e14 := Ex.trans e13 e4
    have lm := ar r (List.mem_of_getElem? hr)
    have lv : (vN r.1).length = m := by unfold vN; rw [List.length_map]; exact lm
    refine ⟨rfl, _, rfl, p, _, 0, _, rfl, rfl, Evl.ex_t e14 g1, rfl, b, _, rfl, .inr (Evl.ex_t e14 g2), ?_⟩
    refine k1 (.num (m : Int)) _ _ H4 (Ex.refl _) (by rw [lv]; exact .num _) (by simp [NestedKey.depth]) ?_
    intro k hk
    rw [pM_keys] at hk
    split at hk
    · exact iv k hk
    · rcases List.mem_append.mp hk with z | z
      · exact iv k z
      · exact List.mem_singleton.mp z
  intro H4 ks2 e4 m2' o2 iv2 _
  have l1 : ks1.length = xs.length := by
    have z := congrArg List.length iv1
    rw [List.length_map, List.length_map, List.length_take, ← ln, Nat.min_self] at z
    exact z
  have l2 : ks2.length ≤ 1 := by
    have one := m2'.one
    cases ks2 with
    | nil => simp
    | cons x t =>
      cases t with
      | nil => simp
      | cons y t =>
        have q1 := iv2 x.1 (by simp)
        have q2 := iv2 y.1 (by simp)
        rw [List.map_cons, List.map_cons, List.nodup_cons] at one
        exact absurd (by rw [q1, q2]; simp) one.1
  refine ⟨_, rfl, D1, ks1, rfl, m1.mono e4, _, rfl, a, xs, rfl, .inl (Evl.ex_l (Ex.trans e13 e4) hx), rfl, _, rfl, ite2 (fun _ => ?_) (fun z => absurd (by rw [l1]; exact decide_eq_true rfl) z)⟩
  refine ⟨_, rfl, D2, ks2, rfl, m2', _, _, rfl, rfl, ?_⟩
  show Q (.bl (decide ((ks2.length : Int) ≤ 1))) H4
  rw [decide_eq_true (by omega)]
  exact q H4 (Ex.trans e13 e4)
end
end L2.Vf.K14
/-! Meanings. -/
namespace L2.Vf.K14
open PySem PySem.Spec PyProof.Rows
open Evl (Ex Ev EvT EvL EvA)
abbrev s_Meaning : Stmt := top 16
abbrev s_Meaning___init__ : Stmt := inClass s_Meaning 0
abbrev s_Meaning_apply : Stmt := inClass s_Meaning 2
/-- a statement that is not reached -/
theorem ps_dead {X : Cx} {st : Stmt} : PS X st (fun _ _ _ => False) := ⟨fun _ _ _ _ _ _ h => h.elim⟩
/-- all lists and tuples stay -/
structure UpS (K : PySem.W.Frag) (H H' : Hp) : Prop where
  l : ∀ {a : Addr} {xs : List V}, SqL K H a xs → SqL K H' a xs
  t : ∀ {a : Addr} {xs : List V}, SqT K H a xs → SqT K H' a xs
theorem UpS.trans {K : PySem.W.Frag} {H H1 H2 : Hp} (a : UpS K H H1) (b : UpS K H1 H2) : UpS K H H2 := ⟨fun h => b.l (a.l h), fun h => b.t (a.t h)⟩
theorem UpS.ex {K : PySem.W.Frag} {H H1 : Hp} (e : Ex H H1) : UpS K H H1 := ⟨fun h => Evl.ex_l e h, fun h => Evl.ex_t e h⟩
theorem UpS.off {K : PySem.W.Frag} {H : Hp} {d : Addr} {u o : HO} (hd : H d = some u) (n1 : ∀ xs, u ≠ .lst xs) (n2 : ∀ xs, u ≠ .tup xs) (n3 : ∀ ob xs, u ≠ .frz ob (.lst xs)) (n4 : ∀ ob xs, u ≠ .frz ob (.tup xs)) : UpS K H (upd H d o) := by
  have go : ∀ {a : Addr} {v : HO}, H a = some v → u ≠ v → upd H d o a = some v := fun {a v} h n => by
    rw [upd_ne (ne_of h hd (fun z => n z.symm))]
    exact h
  constructor
  · rintro a xs ((h | ⟨ob, h⟩) | h)
    · exact .inl (.inl (go h (n1 _)))
    · exact .inl (.inr ⟨ob, go h (n3 _ _)⟩)
    · exact .inr h
  · rintro a xs ((h | ⟨ob, h⟩) | h)
    · exact .inl (.inl (go h (n2 _)))
    · exact .inl (.inr ⟨ob, go h (n4 _ _)⟩)
    · exact .inr h
theorem UpS.mx {K : PySem.W.Frag} {H : Hp} {w : World} {d : Addr} {ks : List Mv} {o : HO} (hd : H d = some (mxo d w ks)) : UpS K H (upd H d o) := UpS.off hd (fun _ z => by cases z) (fun _ z => by cases z) (fun _ _ z => by cases z) (fun _ _ z => by cases z)
theorem UpS.fz {K : PySem.W.Frag} {H : Hp} {w : World} {d : Addr} {ks : List Mv} {od : Obj} {o : HO} (hd : H d = some (.frz od (mxo d w ks))) : UpS K H (upd H d o) := UpS.off hd (fun _ z => by cases z) (fun _ z => by cases z) (fun _ _ z => by cases z) (fun _ _ z => by cases z)
theorem UpS.ins {K : PySem.W.Frag} {H : Hp} {d C dx : Addr} {fs : List (Str × V)} {o : HO} (hd : H d = some (.ins C dx fs)) : UpS K H (upd H d o) := UpS.off hd (fun _ z => by cases z) (fun _ z => by cases z) (fun _ _ z => by cases z) (fun _ _ z => by cases z)
theorem UpS.but {K : PySem.W.Frag} {H H' : Hp} {w : World} {T : Addr} {ks : List Mv} (b : But [T] H H') (hT : H T = some (mxo T w ks)) : UpS K H H' := by
  have go : ∀ {a : Addr} {v : HO}, H a = some v → mxo T w ks ≠ v → H' a = some v := fun {a v} h n => b.get (by
    intro z
    rw [List.mem_singleton.mp z, hT] at h
    exact n (Option.some.inj h)) h
  constructor
  · rintro a xs ((h | ⟨ob, h⟩) | h)
    · exact .inl (.inl (go h (fun z => by cases z)))
    · exact .inl (.inr ⟨ob, go h (fun z => by cases z)⟩)
    · exact .inr h
  · rintro a xs ((h | ⟨ob, h⟩) | h)
    · exact .inl (.inl (go h (fun z => by cases z)))
    · exact .inl (.inr ⟨ob, go h (fun z => by cases z)⟩)
    · exact .inr h
theorem mx_up {K : PySem.W.Frag} {H H' : Hp} {w : World} {d : Addr} {ks : List Mv} (m : Mx K H w d ks) (u : UpS K H H') (o : Rd H' d (mxo d w ks)) : Mx K H' w d ks :=
  ⟨o, fun p hp => ⟨KeyV.to (fun g => u.t g) _ _ (m.key p hp).1, (m.key p hp).2⟩, m.one, m.len, m.sys⟩
theorem RowV.up {K : PySem.W.Frag} {H H' : Hp} {v : V} {r : Rw} (e : UpS K H H') (h : RowV K H v r) : RowV K H' v r := by
  obtain ⟨p, b, h1, h2, h3⟩ := h
  exact ⟨p, b, h1, e.t h2, e.t h3⟩
theorem paired_mem {α β : Type} {F : α → β → Prop} : ∀ {xs : List α} {ys : List β}, Paired F xs ys → ∀ {x : α}, x ∈ xs → ∃ y ∈ ys, F x y
  | _, _, .nil, x, h => by cases h
  | _, _, .cons h t, x, hx => by
    rcases List.mem_cons.mp hx with e | hx
    · rw [e]
      exact ⟨_, List.mem_cons_self, h⟩
    · obtain ⟨y, h1, h2⟩ := paired_mem t hx
      exact ⟨y, List.mem_cons_of_mem _ h1, h2⟩
abbrev Kn := List (Str × List Rw)
/-- a table that is handed in -/
def TbV (K : PySem.W.Frag) (H : Hp) (q : Mv) (x : Str × List Rw) : Prop := q.1 = .text x.1 ∧ q.2.1 = .str x.1 ∧ WordOk 12 x.1 ∧ TabOk x.2 ∧ ∃ a xs, q.2.2 = .ref a ∧ SqL K H a xs ∧ Paired (RowV K H) xs x.2
theorem TbV.up {K : PySem.W.Frag} {H H' : Hp} {q : Mv} {x : Str × List Rw} (e : UpS K H H') (h : TbV K H q x) : TbV K H' q x := by
  obtain ⟨h1, h2, h3, h4, a, xs, h5, h6, h7⟩ := h
  exact ⟨h1, h2, h3, h4, a, xs, h5, e.l h6, pairedTo h7 fun _ _ g => g.up e⟩
/-- a stored row; the rows of a name -/
def RsR (q : Mv) (r : Rw) : Prop := q.1 = keyN r.1 ∧ q.2.2 = .int (r.2 : Int)
def KnR (K : PySem.W.Frag) (w : World) (H : Hp) (q : Mv) (x : Str × List Rw) : Prop := q.1 = .text x.1 ∧ ∃ di mi, q.2.2 = .ref di ∧ H di = some (mxo di w mi) ∧ Mx K H w di mi ∧ Paired RsR mi x.2
def KnV (K : PySem.W.Frag) (w : World) (H : Hp) (d : Addr) (κ : Kn) : Prop := ∃ mv, Mx K H w d mv ∧ Paired (KnR K w H) mv κ
theorem KnR.mono {K : PySem.W.Frag} {w : World} {H H' : Hp} {q : Mv} {x : Str × List Rw} (e : Ex H H') (h : KnR K w H q x) : KnR K w H' q x := by
  obtain ⟨h1, di, mi, h2, ho, h3, h4⟩ := h
  exact ⟨h1, di, mi, h2, e _ _ ho, h3.mono e, h4⟩
theorem KnV.mono {K : PySem.W.Frag} {w : World} {H H' : Hp} {d : Addr} {κ : Kn} (e : Ex H H') (h : KnV K w H d κ) : KnV K w H' d κ := by
  obtain ⟨mv, h1, h2⟩ := h
  exact ⟨mv, h1.mono e, pairedTo h2 fun _ _ g => g.mono e⟩
theorem but_upT {H H' : Hp} {T : Addr} {o : HO} (e : But [T] H H') : But [T] H (upd H' T o) := But.by fun b u n h => by
  rw [upd_ne (fun z => n (by rw [z]; exact List.mem_singleton.mpr rfl))]
  exact e.get n h
theorem hide_in {H : Hp} {T : Addr} {o : HO} : hide [T] (upd H T o) = hide [T] H := by
  funext b
  unfold hide
  by_cases z : b ∈ [T]
  · rw [if_pos z, if_pos z]
  · rw [if_neg z, if_neg z, upd_ne (fun y => z (by rw [y]; exact List.mem_singleton.mpr rfl))]
theorem up_hide {K : PySem.W.Frag} {H : Hp} {w : World} {T : Addr} {ks : List Mv} (hT : H T = some (mxo T w ks)) : UpS K H (hide [T] H) := by
  have go : ∀ {a : Addr} {v : HO}, H a = some v → mxo T w ks ≠ v → hide [T] H a = some v := fun {a v} h n => by
    rw [hide_off (fun z => by
      rw [List.mem_singleton.mp z, hT] at h
      exact n (Option.some.inj h))]
    exact h
  constructor
  · rintro a xs ((h | ⟨ob, h⟩) | h)
    · exact .inl (.inl (go h (fun z => by cases z)))
    · exact .inl (.inr ⟨ob, go h (fun z => by cases z)⟩)
    · exact .inr h
  · rintro a xs ((h | ⟨ob, h⟩) | h)
    · exact .inl (.inl (go h (fun z => by cases z)))
    · exact .inl (.inr ⟨ob, go h (fun z => by cases z)⟩)
    · exact .inr h
def posR (rows : List Rw) : List Rw := rows.filter fun r => decide (0 < r.2)
def fil (κ : Kn) : Kn := (κ.map fun p => (p.1, posR p.2)).filter fun p => !p.2.isEmpty
def MeanAt (K : PySem.W.Frag) (w : World) (H : Hp) (C p : Addr) (κ : Kn) : Prop := ∃ dx T, H p = some (.ins C dx [("_tables", .ref T)]) ∧ KnV K w H T κ
structure MTxt (K : PySem.W.Frag) (C : Addr) : Prop where
  cl : Cls K C
  nT : NoAttr K C "_tables"
def spMInit (K : PySem.W.Frag) (w : World) (C : Addr) : Sp := fun vs H Q _ => ∃ (p dx d : Addr) (mv : List Mv) (κ : Kn), vs = [.ref p, .ref d] ∧ H p = some (.ins C dx []) ∧ H d = some (mxo d w mv) ∧ Mx K H w d mv ∧ Paired (TbV K H) mv κ ∧
  ∀ H', MeanAt K w H' C p (fil κ) → (∀ b o, H b = some o → b ≠ p → H' b = some o) → Q .non H'
section
variable {P : Program} {w : World} {K : PySem.W.Frag} {mg : Str → Option Value} {base : Heap} {f C : Addr} {fd : FuncData}
abbrev n_Meaning___init__ : List Str := ["self", "tables", "name", "results", "things", "result"]
theorem sc_Meaning___init__ : FnScope n_Meaning___init__ ["self", "tables"] (defScope s_Meaning___init__) := ⟨rfl, rfl, rfl, by decide +kernel, rfl, by decide +kernel, by decide +kernel⟩
theorem ok_init (F : Fun K "__init__" "Meaning.__init__" s_Meaning___init__ f fd) (M : MTxt K C) (m_isinstance : mg "isinstance" = none) (m_dict : mg "dict" = none)
    (h1 : Has P w K mg base 1 "is_word" ["value"] spTrueW) (h2 : Has P w K mg base 3 "is_table" ["pairs"] (spIsTable K)) :
    FnOk P w K mg base CX0 4 f fd ["self", "tables"] (spMInit K w C) := by
  obtain ⟨f1, fd1, G_is_word, m_is_word, k_is_word, b_is_word⟩ := h1
  obtain ⟨f2, fd2, G_is_table, m_is_table, k_is_table, b_is_table⟩ := h2
  refine F.ok sc_Meaning___init__ (fun vs H Q E h => ?_) (fun cdv A outer s H vs Q E hr h => ?_)
  · obtain ⟨p, dx, d, mv, κ, rfl, _⟩ := h
    rfl
  obtain ⟨p, dx, d, mv, κ, rfl, hp, ow, hm, hκ, q⟩ := h
  refine ⟨_, (pss_cons (ps_if (pt_not (pt_val (pe_callB (call_isiM (K := K) (w := w)) (by rfl) m_isinstance (by decide +kernel) (pa_cons (pv 1) (pa_cons (pe_bltn (v := .ty "dict") (by rfl) m_dict (by decide +kernel) rfl) pa_nil)))))
  (pss_one ps_dead)
  pss_nil)
  (pss_cons (ps_fld (pv 0) (pe_mnew (w := w)) rfl)
  (pss_one (ps_lock (ps_for PassesOwn.never rfl (pi_mix (w := w) (pv 1)) (pg_name (i := 2) sc_Meaning___init__.nd rfl (.inl rfl))
  (pss_cons (ps_if (PW.pt (pw_or (pt_not (pt_val (pe_call G_is_word (hr.mono (by omega)) (by rfl) m_is_word k_is_word b_is_word .nil pass0 (pa_cons (pv 2) pa_nil)))) (pw_or1 (pt_not (pt_val (pe_call G_is_table (hr.mono (by omega)) (by rfl) m_is_table k_is_table b_is_table .nil pass0 (pa_cons (pe_mget (K := K) (w := w) (units40 hr) (pv 1) (pv 2) (fun _ _ => rfl)) pa_nil)))))))
  (pss_one ps_dead)
  pss_nil)
  (pss_cons (ps_setDcM (i := 3) (K := K) (w := w) (own := [("things", 4), ("result", 5)]) (g := gTup K 2 (gCons (gName 4) (gCons (gName 5) (gNil)))) (tt := _) (units40 hr) rfl sc_Meaning___init__.nd rfl rfl (sw_trueD rfl rfl rfl (by decide +kernel)) (pi_list (pe_mget (K := K) (w := w) (units40 hr) (pv 1) (pv 2) (fun _ _ => rfl))) (blkOk_by (N := n_Meaning___init__) (sc := defScope s_Meaning___init__) (by decide +kernel)) (fun _ _ _ _ _ => (pg_tup rfl (pgs_cons (pg_name (i := 4) sc_Meaning___init__.nd rfl (.inl rfl)) (pgs_cons (pg_name (i := 5) sc_Meaning___init__.nd rfl (.inl rfl)) pgs_nil)))) (fun _ _ _ _ _ => pts_one (pt_cmpR op_gt (pv 5) pe_int (nomark _))) (fun _ _ _ _ _ => (pv 4)) (fun _ _ _ _ _ => (pv 5)))
  (pss_one (ps_if (pt_truthM (K := K) (w := w) (pv 3) (by intro _; rfl))
  (pss_one (ps_mput (K := K) (w := w) (units40 hr) (pe_fld (pv 0) rfl) (pv 2) (pv 3) rfl))
  pss_nil))))))))), ?_⟩
  refine ⟨_, rfl, d, mv, rfl, hm, _, rfl, ite2 (fun z => by cases z) (fun _ => ?_)⟩
  dsimp only [tNext]
  intro T nT sT
  have pT : p ≠ T := ne_of_none hp nT
  refine ⟨_, rfl, p, C, dx, [], rfl, (by rw [upd_ne pT]; exact hp), M.cl, M.nT, (by show 0 < 1000; decide), ?_⟩
  have pd : p ≠ d := ne_of hp ow (by intro z; cases z)
  have Td : T ≠ d := (ne_of_none ow nT).symm
  have uB : UpS K H (upd (upd H T (mxo T w [])) p (HO.ins C dx [("_tables", V.ref T)])) := (UpS.ex (Ex.new nT)).trans (UpS.ins (C := C) (dx := dx) (fs := []) (by rw [upd_ne pT]; exact hp))
  have owB : (upd (upd H T (mxo T w [])) p (HO.ins C dx [("_tables", V.ref T)])) d = some (mxo d w mv) := by rw [upd_ne pd.symm, upd_ne Td.symm]; exact ow
  have pB : (upd (upd H T (mxo T w [])) p (HO.ins C dx [("_tables", V.ref T)])) p = some (HO.ins C dx [("_tables", V.ref T)]) := upd_same
  have TB : (upd (upd H T (mxo T w [])) p (HO.ins C dx [("_tables", V.ref T)])) T = some (mxo T w []) := by rw [upd_ne pT.symm, upd_same]
  have kB : ∀ b o, H b = some o → b ≠ p → (upd (upd H T (mxo T w [])) p (HO.ins C dx [("_tables", V.ref T)])) b = some o := fun b o e n => by rw [upd_ne n, upd_ne (ne_of_none e nT)]; exact e
  show tLock _ _ _ (upd (upd H T (mxo T w [])) p (HO.ins C dx [("_tables", V.ref T)]))
  generalize upd (upd H T (mxo T w [])) p (HO.ins C dx [("_tables", V.ref T)]) = HB at uB owB pB TB kB ⊢
  refine ⟨d, mxo d w mv, owB, trivial, fun od => ?_⟩
  have uL : UpS K H (upd HB d (.frz od (mxo d w mv))) := uB.trans (UpS.mx owB)
  have fL : (upd HB d (.frz od (mxo d w mv))) d = some (.frz od (mxo d w mv)) := upd_same
  have pL : (upd HB d (.frz od (mxo d w mv))) p = some (HO.ins C dx [("_tables", V.ref T)]) := by rw [upd_ne pd]; exact pB
  have TL : (upd HB d (.frz od (mxo d w mv))) T = some (mxo T w []) := by rw [upd_ne Td]; exact TB
  have kL : ∀ b o, H b = some o → b ≠ p → b ≠ d → (upd HB d (.frz od (mxo d w mv))) b = some o := fun b o e n1 n2 => by rw [upd_ne n2]; exact kB b o e n1
  generalize upd HB d (.frz od (mxo d w mv)) = HL at uL fL pL TL kL ⊢
  have dS : d ∉ [T] := fun z => Td.symm (List.mem_singleton.mp z)
  have pS : p ∉ [T] := fun z => pT (List.mem_singleton.mp z)
  refine ⟨_, rfl, d, od, mv, rfl, hm.sys, fL, for_mix (d := d) (o := od) (w := w) (ks := mv) (fun i σ H' => ∃ (y2 y3 y4 y5 : Option V) (mt : List Mv), σ = [some (.ref p), some (.ref d), y2, y3, y4, y5] ∧ But [T] HL H' ∧ H' T = some (mxo T w mt) ∧ Mx K H' w T mt ∧
    Paired (KnR K w (hide [T] H')) mt (fil (κ.take i)) ∧ mt.length ≤ i ∧ (∀ q ∈ mt, ∃ r ∈ mv.take i, r.1 = q.1)) ⟨none, none, none, none, [], rfl, But.refl, TL, ⟨.inl TL, (fun p z => by cases z), List.nodup_nil, Nat.zero_le _, sT⟩, .nil, Nat.zero_le _, (fun q z => by cases z)⟩
    (fun i σ H' h => by obtain ⟨_, _, _, _, _, _, b, _⟩ := h; exact b.get dS fL) ?_ ?_⟩
  · rintro i r σ H3 hj ⟨y2, y3, y4, y5, mt, rfl, b3, T3, mT, km, lt, nk⟩
    obtain ⟨x, hx, tv⟩ := LiI.paired_get hκ hj
    obtain ⟨ek, evl, wok, tok, a, xs, ea, hxs, hrows⟩ := tv
    have up3 : UpS K H H3 := uL.trans (UpS.but b3 TL)
    have d3 := b3.get dS fL
    have p3 := b3.get pS pL
    have m3 : Mx K H3 w d mv := mx_up hm up3 (.inr ⟨od, d3⟩)
    have lr : xs.length = x.2.length := Paired.length hrows
    have vat := vM_at hm.one hj
    rw [ek, ea] at vat
    show tSeq _ _ _ [some (.ref p), some (.ref d), some r.2.1, y3, y4, y5] H3
    rw [evl]
    refine ⟨_, rfl, x.1, rfl, wok, fun H4 e4 => ⟨_, rfl, ite2 (fun z => by cases z) (fun _ => ?_)⟩⟩
    have up4 := up3.trans (UpS.ex e4)
    refine ⟨_, rfl, _, rfl, d, mv, .text x.1, .ref a, rfl, m3.mono e4, .text _, (by simp [NestedKey.depth]), vat, a, xs, x.2, rfl, up4.l hxs, pairedTo hrows fun _ _ g => g.up up4, tok, fun H5 e5 => ⟨_, rfl, ite2 (fun z => by cases z) (fun _ => ?_)⟩⟩
    have up5 := up4.trans (UpS.ex e5)
    have e35 := Ex.trans e4 e5
    dsimp only [tNext]
    refine ⟨_, rfl, _, rfl, d, mv, .text x.1, .ref a, rfl, m3.mono e35, .text _, (by simp [NestedKey.depth]), vat, a, rfl, ⟨_, up5.l hxs⟩, fun D nD sD => dcM_iv (fun j ks => Paired RsR ks (posR (x.2.take j))) nD sD (up5.l hxs) (by have := tok.len; omega) .nil ?_ ?_⟩
    · rintro j v H6 ks hv e6 iv N M k1 k2
      have up6 := up5.trans (UpS.ex e6)
      obtain ⟨r', hr', p', b, rfl, g1, g2⟩ := rows_at hrows hv
      have up6' : UpS K H H6 := up6
      have new : keyN r'.1 ∉ ks.map (·.1) := fun z => by
        obtain ⟨q0, hq0, eq0⟩ := List.mem_map.mp z
        obtain ⟨r0, hr0, ⟨ez, _⟩⟩ := paired_mem iv hq0
        have hm0 := List.mem_filter.mp hr0
        obtain ⟨j0, hj0⟩ := List.mem_iff_getElem?.mp hm0.1
        have lj := (List.getElem?_eq_some_iff.mp hj0).1
        rw [List.length_take] at lj
        rw [List.getElem?_take_of_lt (by omega)] at hj0
        have q1 : (x.2.map (·.1))[j0]? = some r0.1 := by rw [List.getElem?_map, hj0]; rfl
        have q2 : (x.2.map (·.1))[j]? = some r'.1 := by rw [List.getElem?_map, hr']; rfl
        rw [← keyN_inj (ez.symm.trans eq0)] at q2
        have := (List.getElem?_inj (List.getElem?_eq_some_iff.mp q1).1 tok.one).mp (q1.trans q2.symm)
        omega
      have tk : posR (x.2.take (j + 1)) = posR (x.2.take j) ++ posR [r'] := by
        unfold posR
        rw [List.take_add_one, hr', List.filter_append]
        rfl
      refine ⟨p', _, rfl, up6.t g1, rfl, _, _, rfl, _, _, rfl, rfl, rfl, _, rfl, _, _, rfl, rfl, _, rfl, ite2 (fun z => ?_) (fun z => ?_)⟩
      · have pos : 0 < r'.2 := by
          have := of_decide_eq_true z
          omega
        refine ⟨_, rfl, _, rfl, k1 (keyN r'.1) _ _ H6 (Ex.refl _) (keyN_v (up6.t g2)) (keyN_depth _) ?_⟩
        rw [pM_new new, tk]
        refine pairApp iv ?_
        unfold posR
        rw [List.filter_cons_of_pos (by simpa using pos)]
        exact .cons ⟨rfl, rfl⟩ .nil
      · have pos : ¬ 0 < r'.2 := fun y => z (decide_eq_true (by omega))
        refine k2 H6 (Ex.refl _) ?_
        rw [tk]
        unfold posR
        rw [List.filter_cons_of_neg (l := []) (by simpa using pos)]
        simpa [posR] using iv
    intro H6 ks e6 m6 o6 iv6 _
    have lx : x.2.take xs.length = x.2 := by rw [lr, List.take_length]
    rw [lx] at iv6
    have e36 := Ex.trans e35 e6
    have T6 := e36 _ _ T3
    have p6 := e36 _ _ p3
    have DT : D ≠ T := (ne_of_none (e35 _ _ T3) nD).symm
    have b6 : But [T] HL H6 := b3.trans (But.of e36)
    have tk : fil (κ.take (i + 1)) = fil (κ.take i) ++ fil [x] := by
      unfold fil
      rw [List.take_add_one, hx, List.map_append, List.filter_append]
      rfl
    have km6 : Paired (KnR K w (hide [T] H6)) mt (fil (κ.take i)) := pairedTo km fun _ _ g => g.mono (But.of e36)
    have nkS : ∀ q ∈ mt, ∃ r ∈ mv.take (i + 1), r.1 = q.1 := fun q hq => by
      obtain ⟨r0, h1, h2⟩ := nk q hq
      refine ⟨r0, ?_, h2⟩
      rw [List.take_add_one]
      exact List.mem_append_left _ h1
    refine ⟨_, rfl, D, ks, rfl, m6, ite2 (fun z => ?_) (fun z => ?_)⟩
    · have fx : fil [x] = [(x.1, posR x.2)] := by
        unfold fil
        cases hz : posR x.2 with
        | nil =>
          rw [hz] at iv6
          cases iv6
          simp at z
        | cons r0 t =>
          rw [List.map_cons, hz]
          rfl
      have ilt := (List.getElem?_eq_some_iff.mp hj).1
      have lm := hm.len
      have new : NestedKey.text x.1 ∉ mt.map (·.1) := fun y => by
        obtain ⟨q0, hq0, eq0⟩ := List.mem_map.mp y
        obtain ⟨r0, h1, h2⟩ := nk q0 hq0
        obtain ⟨j0, hj0⟩ := List.mem_iff_getElem?.mp h1
        have lj := (List.getElem?_eq_some_iff.mp hj0).1
        rw [List.length_take] at lj
        rw [List.getElem?_take_of_lt (by omega)] at hj0
        have q1 : (mv.map (·.1))[j0]? = some r0.1 := by rw [List.getElem?_map, hj0]; rfl
        have q2 : (mv.map (·.1))[i]? = some r.1 := by rw [List.getElem?_map, hj]; rfl
        rw [ek, ← eq0, ← h2] at q2
        have := (List.getElem?_inj (List.getElem?_eq_some_iff.mp q1).1 hm.one).mp (q1.trans q2.symm)
        omega
      refine ⟨_, rfl, _, rfl, p, C, dx, _, .ref T, rfl, p6, M.cl, M.nT, rfl, _, rfl, T, mt, .text x.1, rfl, mT.mono e36, T6, .text _, (by simp [NestedKey.depth]), (by omega), ?_⟩
      refine ⟨_, _, _, _, _, rfl, but_upT b6, upd_same, (mT.mono e36).put T6 (.text _) (by simp [NestedKey.depth]) (by omega), ?_, Nat.le_trans pM_len (by omega), ?_⟩
      · rw [pM_new new, tk, fx, hide_in]
        refine pairApp km6 (.cons ⟨rfl, D, ks, rfl, ?_, ?_, iv6⟩ .nil)
        · rw [hide_off (fun y => DT (List.mem_singleton.mp y))]
          exact o6
        · exact mx_up m6 (up_hide T6) (.inl (by rw [hide_off (fun y => DT (List.mem_singleton.mp y))]; exact o6))
      · rw [pM_new new]
        intro q hq
        rcases List.mem_append.mp hq with y | y
        · exact nkS q y
        · rw [List.mem_singleton.mp y]
          refine ⟨r, ?_, ek⟩
          rw [List.take_add_one, hj]
          exact List.mem_append_right _ List.mem_cons_self
    · have fx : fil [x] = [] := by
        cases iv6' : posR x.2 with
        | nil =>
          unfold fil
          rw [List.map_cons, iv6']
          rfl
        | cons r0 t =>
          rw [iv6'] at iv6
          cases iv6 with
          | cons _ _ => exact absurd rfl z
      refine ⟨_, _, _, _, mt, rfl, b6, T6, mT.mono e36, ?_, by omega, nkS⟩
      rw [tk, fx, List.append_nil]
      exact km6
  · rintro σ H3 ⟨y2, y3, y4, y5, mt, rfl, b3, T3, mT, km, lt, nk⟩
    have lk : mv.length = κ.length := Paired.length hκ
    rw [lk, List.take_length] at km
    have d3 := b3.get dS fL
    have p3 := b3.get pS pL
    have uU : UpS K H3 (upd H3 d (mxo d w mv)) := UpS.fz d3
    refine ⟨d3, q _ ⟨dx, T, by rw [upd_ne pd]; exact p3, mt, ?_, ?_⟩ ?_⟩
    · exact mx_up mT uU (.inl (by rw [upd_ne Td]; exact T3))
    · refine pairedTo km fun q0 x0 g => ?_
      obtain ⟨h1, di, mi, h2, ho, h3, h4⟩ := g.mono hide_ex
      have ne : di ≠ d := ne_of ho d3 (by intro z; cases z)
      have ho' : (upd H3 d (mxo d w mv)) di = some (mxo di w mi) := by rw [upd_ne ne]; exact ho
      exact ⟨h1, di, mi, h2, ho', mx_up h3 uU (.inl ho'), h4⟩
    · intro b o hb n
      by_cases bd : b = d
      · rw [bd, upd_same, ← ow, ← bd]
        exact hb
      · rw [upd_ne bd]
        exact b3.get (fun z => ne_of_none hb nT (List.mem_singleton.mp z)) (kL b o hb n bd)
end
end L2.Vf.K14
/-! What a term means. -/
namespace L2.Vf.K14
open PySem PySem.Spec PyProof.Rows
open Evl (Ex Ev EvT EvL EvA)
open NdefX LamX
def rLook (rows : List Rw) (ns : List Nat) : Nat := match rows.find? (fun r => decide (r.1 = ns)) with
  | some r => r.2
  | none => 0
def kLook (κ : Kn) (y : Str) (ns : List Nat) : Nat := match κ.find? (fun p => decide (p.1 = y)) with
  | some p => rLook p.2 ns
  | none => 0
mutual
def _root_.L2.Vf.Tm.vl (κ : Kn) (ρ : NestedKey → Option Nat) : Tm → Nat
  | .var k => (ρ k).getD 0
  | .of x ts => kLook κ x (Tm.vls κ ρ ts)
def _root_.L2.Vf.Tm.vls (κ : Kn) (ρ : NestedKey → Option Nat) : List Tm → List Nat
  | [] => []
  | t :: ts => t.vl κ ρ :: Tm.vls κ ρ ts
end
theorem rows_look {ns : List Nat} : ∀ {mi : List Mv} {rows : List Rw}, Paired RsR mi rows → (vM mi (keyN ns)).getD (.int 0) = V.int (rLook rows ns : Nat)
  | _, _, .nil => rfl
  | _, _, .cons (a := q) (b := r) h t => by
    have ih := rows_look (ns := ns) t
    obtain ⟨h1, h2⟩ := h
    unfold vM rLook
    rw [List.find?_cons, List.find?_cons, h1]
    by_cases z : r.1 = ns
    · rw [decide_eq_true (show keyN r.1 = keyN ns by rw [z]), decide_eq_true z]
      exact h2
    · rw [decide_eq_false (fun y => z (keyN_inj y)), decide_eq_false z]
      exact ih
theorem kn_look {K : PySem.W.Frag} {w : World} {H : Hp} {y : Str} : ∀ {mv : List Mv} {κ : Kn}, Paired (KnR K w H) mv κ → (vM mv (.text y) = none ∧ κ.find? (fun p => decide (p.1 = y)) = none) ∨ ∃ q x, vM mv (.text y) = some q.2.2 ∧ κ.find? (fun p => decide (p.1 = y)) = some x ∧ KnR K w H q x
  | _, _, .nil => .inl ⟨rfl, rfl⟩
  | _, _, .cons (a := q) (b := x) h t => by
    have ih := kn_look (y := y) t
    have h1 := h.1
    unfold vM
    rw [List.find?_cons, List.find?_cons, h1]
    by_cases z : x.1 = y
    · rw [decide_eq_true (show NestedKey.text x.1 = NestedKey.text y by rw [z]), decide_eq_true z]
      exact .inr ⟨q, x, rfl, rfl, h⟩
    · rw [decide_eq_false (fun e => z (by injection e)), decide_eq_false z]
      exact ih
/-- the things that variables stand for -/
def EnR (ks : List Mv) (ρ : NestedKey → Option Nat) : Prop := ∀ k, vM ks k = (ρ k).map fun n : Nat => V.int (n : Int)
def spApply (K : PySem.W.Frag) (w : World) (C : Addr) : Sp := fun vs H Q _ => ∃ (p a : Addr) (y : Str) (κ : Kn) (ns : List Nat), vs = [.ref p, .str y, .ref a] ∧ MeanAt K w H C p κ ∧ SqT K H a (vN ns) ∧ ∀ H', Ex H H' → Q (.int (kLook κ y ns : Nat)) H'
section
variable {P : Program} {w : World} {K : PySem.W.Frag} {mg : Str → Option Value} {base : Heap} {f C : Addr} {fd : FuncData}
abbrev n_Meaning_apply : List Str := ["self", "name", "things"]
theorem sc_Meaning_apply : FnScope n_Meaning_apply ["self", "name", "things"] (defScope s_Meaning_apply) := ⟨rfl, rfl, rfl, by decide +kernel, rfl, by decide +kernel, by decide +kernel⟩
theorem ok_apply (F : Fun K "apply" "Meaning.apply" s_Meaning_apply f fd) (M : MTxt K C) (m_tuple : mg "tuple" = none) : FnOk P w K mg base CX0 1 f fd ["self", "name", "things"] (spApply K w C) := by
  refine F.ok sc_Meaning_apply (fun vs H Q E h => ?_) (fun cdv A outer s H vs Q E hr h => ?_)
  · obtain ⟨p, a, y, κ, ns, rfl, _⟩ := h
    rfl
  obtain ⟨p, a, y, κ, ns, rfl, ⟨dx, T, hp, mv, hm, hk⟩, ha, q⟩ := h
  refine ⟨_, (pss_one (ps_ret (pe_mget2 (K := K) (w := w) (units40 hr) (pe_mget2 (K := K) (w := w) (units40 hr) (pe_fld (pv 0) rfl) (pv 1) (pe_mnew (w := w)) ⟨by rfl, by rfl, by rfl, by rfl⟩) (pe_callTy (call_tuple_ofK (K := K)) (by rfl) m_tuple (by decide +kernel) (pa_cons (pv 2) pa_nil)) pe_int ⟨by rfl, by rfl, by rfl, by rfl⟩))), ?_⟩
  refine ⟨_, rfl, p, C, dx, _, .ref T, rfl, hp, M.cl, M.nT, rfl, T, mv, rfl, hm, _, rfl, fun D nD sD => ⟨mv, .text y, hm.mono (Ex.new nD), .text y, (by simp [NestedKey.depth]), ?_⟩⟩
  have hD := Mx.new (K := K) (H := H) (w := w) sD
  have eD : Ex H (upd H D (mxo D w [])) := Ex.new nD
  have kv := keyN_v (ns := ns) (Evl.ex_t eD ha)
  rcases kn_look (y := y) hk with ⟨h1, h2⟩ | ⟨r, x, h1, h2, h3, di, mi, h4, ho, h5, h6⟩
  · rw [h1]
    refine ⟨D, [], rfl, hD, _, rfl, a, _, rfl, .inr ⟨Evl.ex_t eD ha, ?_⟩⟩
    refine ⟨[], keyN ns, hD, kv, keyN_depth _, ?_⟩
    have e := q _ eD
    unfold kLook at e
    rw [h2] at e
    exact e
  · rw [h1, h4]
    refine ⟨di, mi, rfl, h5.mono eD, _, rfl, a, _, rfl, .inr ⟨Evl.ex_t eD ha, ?_⟩⟩
    refine ⟨mi, keyN ns, h5.mono eD, kv, keyN_depth _, ?_⟩
    rw [rows_look h6]
    have e := q _ eD
    unfold kLook at e
    rw [h2] at e
    exact e
end
abbrev s_value_of : Stmt := top 19
abbrev l1_value_of : Lm := lamAt s_value_of 1
abbrev l2_value_of : Lm := lamAt s_value_of 2
theorem nsv1 : NScope ["part", "values"] ["part"] ["values"] l1_value_of.scope := nscope_by (by decide +kernel)
theorem nsv2 : NScope ["part", "things", "meaning"] ["part", "things"] ["meaning"] l2_value_of.scope := nscope_by (by decide +kernel)
/-- part -> values[part[1]] -/
def spV1 (K : PySem.W.Frag) (w : World) (c' : Addr) (q : Str) (d : Addr) : Sp := fun vs H Q _ => ∃ (k : NestedKey) (p : V) (ks : List Mv) (v : V), vs = [p] ∧ H c' = some (CodeO c' q) ∧ TmV K H (.var k) p ∧ Mx K H w d ks ∧ vM ks k = some v ∧ Q v H
/-- part, things -> meaning.apply(part[1], things) -/
def spV2 (K : PySem.W.Frag) (w : World) (C : Addr) (c' : Addr) (q : Str) (pm : Addr) : Sp := fun vs H Q _ => ∃ (y : Str) (us : List Tm) (p : V) (m : Addr) (κ : Kn) (ns : List Nat), vs = [p, .ref m] ∧ H c' = some (CodeO c' q) ∧ TmV K H (.of y us) p ∧ MeanAt K w H C pm κ ∧ SqT K H m (vN ns) ∧
  ∀ H', Ex H H' → Q (.int (kLook κ y ns : Nat)) H'
section
variable {P : Program} {w : World} {K : PySem.W.Frag} {mg : Str → Option Value} {base : Heap} {f c' C fa : Addr} {fda : FuncData} {q : Str} {cl : List (Str × Addr)} {pm ctv : Value}
theorem ok_v1 {d : Addr} (ob : base.get? f = some (PySem.W.kla_obj "<lambda>" q l1_value_of.params l1_value_of.body l1_value_of.scope cl pm c' ctv)) (CB : CellsB base cl ["values"] [some (.ref d)]) :
    FnOk P w K mg base CX0 2 f (PySem.W.kla_fn "<lambda>" q l1_value_of.params l1_value_of.body l1_value_of.scope cl pm (.ref c') ctv) ["part"] (spV1 K w c' q d) := by
  refine fn_lam (N := ["part", "values"]) (k := 1) (ws := [some (.ref d)]) ob nsv1 CB (fun vs H Q E h => ?_) (fun vs H Q E h => ?_) fun A outer s H vs Q E hr h => ?_
  · obtain ⟨_, _, _, _, rfl, _⟩ := h
    rfl
  · obtain ⟨_, _, _, _, _, h, _⟩ := h
    exact h
  obtain ⟨k, p, ks, v, rfl, _, ht, hm, hv, hq⟩ := h
  refine ⟨_, (pe_mget (K := K) (w := w) (units40 hr) (pv 1) (pe_ix (ix_tupK (K := K)) (pv 0) pe_int (fun _ _ => rfl)) (fun _ _ => rfl)), ?_⟩
  cases ht with
  | @var a _ u g1 g2 g3 =>
    exact ⟨_, rfl, _, rfl, a, _, _, _, rfl, rfl, g1, rfl, d, ks, k, v, rfl, hm, g2, g3, hv, hq⟩
theorem ok_v2 {me : Addr} (M : MTxt K C) (ma : Meth K C "apply" fa) (Fa : Fun K "apply" "Meaning.apply" s_Meaning_apply fa fda) (ba : Binds K fda ["self", "name", "things"] []) (m_tuple : mg "tuple" = none)
    (ob : base.get? f = some (PySem.W.kla_obj "<lambda>" q l2_value_of.params l2_value_of.body l2_value_of.scope cl pm c' ctv)) (CB : CellsB base cl ["meaning"] [some (.ref me)]) :
    FnOk P w K mg base CX0 2 f (PySem.W.kla_fn "<lambda>" q l2_value_of.params l2_value_of.body l2_value_of.scope cl pm (.ref c') ctv) ["part", "things"] (spV2 K w C c' q me) := by
  refine fn_lam (N := ["part", "things", "meaning"]) (k := 1) (ws := [some (.ref me)]) ob nsv2 CB (fun vs H Q E h => ?_) (fun vs H Q E h => ?_) fun A outer s H vs Q E hr h => ?_
  · obtain ⟨_, _, _, _, _, _, rfl, _⟩ := h
    rfl
  · obtain ⟨_, _, _, _, _, _, _, h, _⟩ := h
    exact h
  obtain ⟨y, us, p, m, κ, ns, rfl, _, ht, hM, hn, hq⟩ := h
  have Ga : FnOk P w K mg base CX0 1 fa fda ["self", "name", "things"] (spApply K w C) := ok_apply Fa M m_tuple
  refine ⟨_, (pe_meth (pv 2) M.cl ma Ga (hr.mono (by omega)) ba .nil pass0 (pa_cons (pe_ix (ix_tupK (K := K)) (pv 0) pe_int (fun _ _ => rfl)) (pa_cons (pv 1) pa_nil))), ?_⟩
  have hM' := hM
  obtain ⟨dx, T, hp, _⟩ := hM
  cases ht with
  | @of a b _ _ ws g1 g2 g3 g4 =>
    exact ⟨_, rfl, me, dx, _, rfl, hp, rfl, _, rfl, a, _, _, _, rfl, rfl, g1, rfl, _, rfl, me, m, y, κ, ns, rfl, hM', hn, hq⟩
end
end L2.Vf.K14
/-! value_of. -/
namespace L2.Vf.K14
open PySem PySem.Spec PyProof.Rows
open Evl (Ex Ev EvT EvL EvA)
open NdefX LamX
theorem vls_of {κ : Kn} {ρ : NestedKey → Option Nat} : ∀ {us : List Tm} {xs : List V}, Paired (fun x u => x = V.int (Tm.vl κ ρ u : Nat)) xs us → xs = vN (Tm.vls κ ρ us)
  | [], _, h => by cases h; rfl
  | u :: us, _, h => by
    cases h with
    | cons h1 h2 =>
      rw [h1, vls_of h2]
      rfl
theorem extN_t {K : PySem.W.Frag} {H H2 : Hp} (eN : ExtN H H2) : ∀ {a : Addr} {xs : List V}, SqT K H a xs → SqT K H2 a xs := fun {a xs} g => by
  rcases g with (g | ⟨o, g⟩) | g
  · exact .inl (.inl (eN _ _ g (by intro _ z; cases z)))
  · exact .inl (.inr ⟨o, eN _ _ g (by intro _ z; cases z)⟩)
  · exact .inr g
theorem extN_mx {K : PySem.W.Frag} {w : World} {H H2 : Hp} {d : Addr} {ks : List Mv} (eN : ExtN H H2) (hm : Mx K H w d ks) : Mx K H2 w d ks := by
  refine ⟨?_, fun p hp => ⟨KeyV.to (extN_t eN) _ _ (hm.key p hp).1, (hm.key p hp).2⟩, hm.one, hm.len, hm.sys⟩
  rcases hm.obj with g | ⟨od, g⟩
  · exact .inl (eN _ _ g (by intro _ z; cases z))
  · exact .inr ⟨od, eN _ _ g (by intro _ z; cases z)⟩
theorem extN_mean {K : PySem.W.Frag} {w : World} {H H2 : Hp} {C p : Addr} {κ : Kn} (eN : ExtN H H2) (h : MeanAt K w H C p κ) : MeanAt K w H2 C p κ := by
  obtain ⟨dx, T, hp, mv, hm, hk⟩ := h
  refine ⟨dx, T, eN _ _ hp (by intro _ z; cases z), mv, extN_mx eN hm, pairedTo hk fun q x g => ?_⟩
  obtain ⟨h1, di, mi, h2, ho, h3, h4⟩ := g
  exact ⟨h1, di, mi, h2, eN _ _ ho (by intro _ z; cases z), extN_mx eN h3, h4⟩
theorem MeanAt.mono {K : PySem.W.Frag} {w : World} {H H2 : Hp} {C p : Addr} {κ : Kn} (e : Ex H H2) (h : MeanAt K w H C p κ) : MeanAt K w H2 C p κ := by
  obtain ⟨dx, T, hp, hk⟩ := h
  exact ⟨dx, T, e _ _ hp, hk.mono e⟩
abbrev n_value_of : List Str := ["meaning", "term", "values"]
theorem sc_value_of : FnScope n_value_of ["meaning", "term", "values"] (defScope s_value_of) := ⟨rfl, rfl, rfl, by decide +kernel, rfl, by decide +kernel, by decide +kernel⟩
def spValueOf (K : PySem.W.Frag) (w : World) (C : Addr) (T : List (Addr × Str)) : Sp := fun vs H Q _ => ∃ (p d : Addr) (v : V) (t : Tm) (ks : List Mv) (κ : Kn) (ρ : NestedKey → Option Nat), vs = [.ref p, v, .ref d] ∧ MeanAt K w H C p κ ∧ TmV K H t v ∧ t.pre.length ≤ 10000 ∧ Mx K H w d ks ∧ EnR ks ρ ∧
  (∀ k, Tm.var k ∈ t.pre → (ρ k).isSome = true) ∧ Tabs T H ∧ ∀ H', ExtN H H' → Tabs T H' → Q (.int (t.vl κ ρ : Nat)) H'
section
variable {P : Program} {w : World} {K : PySem.W.Frag} {mg : Str → Option Value} {base : Heap} {f c C fa : Addr} {fd fda : FuncData}
theorem ok_value_of {fg Pt : Addr} {fdg : FuncData} {T : List (Addr × Str)} (F : FunC K "value_of" "value_of" s_value_of f fd c) (G : ∀ b : Heap, K.In b → b.Ns mainGlobals mg → FnOk P w K mg b CX0 3 fg fdg ["term", "of_variable", "of_made"] (spFolded P w K mg 2 b))
    (m_folded : mg "folded" = some (.ref fg)) (k_folded : PySem.W.keepIn K (.ref fg) = true) (b_folded : Binds K fdg ["term", "of_variable", "of_made"] []) (TB : TabB base mg c Pt)
    (M : MTxt K C) (ma : Meth K C "apply" fa) (Fa : Fun K "apply" "Meaning.apply" s_Meaning_apply fa fda) (ba : Binds K fda ["self", "name", "things"] []) (m_tuple : mg "tuple" = none)
    (hmT : (Pt, (envOfC "value_of" (defScope s_value_of) 0 0 .none).qual ++ "<lambda>") ∈ T) (hu : ∀ p ∈ T, p.1 = Pt → p.2 = (envOfC "value_of" (defScope s_value_of) 0 0 .none).qual ++ "<lambda>") :
    FnOk P w K mg base CX0 4 f fd ["meaning", "term", "values"] (spValueOf K w C T) := by
  refine F.ok (k := 3) sc_value_of (fun vs H Q E h => ?_) (fun A outer s H vs Q E hr h => ?_)
  · obtain ⟨_, _, _, _, _, _, _, rfl, _⟩ := h
    rfl
  obtain ⟨p, d, v, t, ks, κ, ρ, rfl, hM, hv, hl, hm, hen, hvar, hT, q⟩ := h
  have nb1 : ndefB (defScope s_value_of) l1_value_of.scope ["values"] = true := by decide +kernel
  have nb2 : ndefB (defScope s_value_of) l2_value_of.scope ["meaning"] = true := by decide +kernel
  refine ⟨_, (pss_one (ps_ret (pe_fold2 (l1 := l1_value_of) (l2 := l2_value_of) (fr1 := ["values"]) (js1 := [2]) (fr2 := ["meaning"]) (js2 := [0]) (T := T) (CX := CX0) (k := 3) (E := E0) (spG := spFolded P w K mg 2) G hr (by rfl) m_folded k_folded b_folded pass0 (pv 1) TB rfl hmT hu
    ⟨by rfl, ndef_free nb1, fun _ _ _ => rfl, ndef_fr nb1, by rfl⟩ ⟨by rfl, ndef_free nb2, fun _ _ _ => rfl, ndef_fr nb2, by rfl⟩))), ?_⟩
  refine ⟨v, rfl, hT, fun b f1 f2 H2 eN T2 kb nb M1 M2 => ?_⟩
  obtain ⟨⟨a1, p1, t1, o1, co1⟩, C1⟩ := M1
  obtain ⟨⟨a2, p2, t2, o2, co2⟩, C2⟩ := M2
  have v2 : TmV K H2 t v := TmV.to (extN_t eN) _ _ hv
  have m2 := extN_mx eN hm
  have mm2 := extN_mean eN hM
  have ex3 : ∀ {H3 : Hp}, But [] H2 H3 → Ex H2 H3 := fun {H3} b3 b o h => by
    have z := b3 b o (by rw [hide_nil]; exact h)
    rwa [hide_nil] at z
  refine ⟨[], t, v, f1, f2, ["part"], ["part", "things"], spV1 K w a1 _ d, spV2 K w C a2 _ p, fun u x H' => x = V.int (u.vl κ ρ : Nat), rfl,
    ⟨_, ⟨_, _, _, _, o1⟩, ok_v1 o1 C1, .all fun us hl => match us, hl with | [_], _ => rfl⟩, ⟨_, ⟨_, _, _, _, o2⟩, ok_v2 M ma Fa ba m_tuple o2 C2, .all fun us hl => match us, hl with | [_, _], _ => rfl⟩, by rw [hide_nil]; exact v2, (fun b hb => by cases hb), hl, (fun u x H3 H4 _ h => h), ?_, ?_, ?_⟩
  · intro k p' H3 Q1 hk b3 k3 hp hq
    rw [hide_nil] at hp
    have e := ex3 b3
    have hs := hvar k hk
    have hv := hen k
    cases hr : ρ k with
    | none =>
      rw [hr] at hs
      cases hs
    | some n =>
      rw [hr] at hv
      refine ⟨k, p', ks, .int (n : Int), rfl, e _ _ co1, hp, Mx.mono e m2, hv, hq _ H3 ?_ But.refl k3⟩
      show V.int (n : Int) = V.int (((ρ k).getD 0 : Nat) : Int)
      rw [hr]
      rfl
  · intro y us p' m xs H3 Q1 b3 k3 hp hm3 hxs hq
    rw [hide_nil] at hp hm3
    have e := ex3 b3
    rw [vls_of hxs] at hm3
    exact ⟨y, us, p', m, κ, Tm.vls κ ρ us, rfl, e _ _ co2, hp, mm2.mono e, hm3, fun H4 e4 => hq _ H4 rfl (But.of e4) (fun b hb => by cases hb)⟩
  · intro x H3 hx b3 k3
    have e := ex3 b3
    rw [hx]
    exact q H3 (fun b o h n => e _ _ (eN b o h n)) (Tabs.ext T2 e)
end
end L2.Vf.K14
/-! The law's own value. -/
namespace L2.Vf.K14
open PySem PySem.Spec PyProof.Rows
open Evl (Ex Ev EvT EvL EvA)
abbrev s__law_value : Stmt := top 29
def spLawValue (K : PySem.W.Frag) (w : World) (n : Nat) : Sp := fun vs H Q _ => ∃ (kd d : Addr) (tv : V) (t : Tm) (ks : List Mv) (κ : Kn) (ρ : NestedKey → Option Nat), vs = [.ref kd, tv, .ref d] ∧ KnV K w H kd κ ∧ TmV K H t tv ∧ Mx K H w d ks ∧ EnR ks ρ ∧ (∀ k, Tm.var k ∈ t.pre → (ρ k).isSome = true) ∧ t.deep < n ∧
  ∀ H', Ex H H' → Q (.int (t.vl κ ρ : Nat)) H'
theorem pres_of : ∀ {ts : List Tm} {t u : Tm}, t ∈ ts → u ∈ t.pre → u ∈ Tm.pres ts
  | [], _, _, h, _ => by cases h
  | y :: ts, t, u, h, hu => by
    show u ∈ y.pre ++ Tm.pres ts
    rcases List.mem_cons.mp h with e | h
    · rw [← e]
      exact List.mem_append_left _ hu
    · exact List.mem_append_right _ (pres_of h hu)
theorem vls_map (κ : Kn) (ρ : NestedKey → Option Nat) : ∀ ts : List Tm, Tm.vls κ ρ ts = ts.map (Tm.vl κ ρ)
  | [] => rfl
  | t :: ts => by
    show t.vl κ ρ :: Tm.vls κ ρ ts = _
    rw [vls_map κ ρ ts]
    rfl
theorem kn_get {K : PySem.W.Frag} {w : World} {H : Hp} {kd : Addr} {κ : Kn} {y : Str} {ns : List Nat} (h : KnV K w H kd κ) : ∃ mv, Mx K H w kd mv ∧ ((vM mv (.text y) = none ∧ kLook κ y ns = 0) ∨ ∃ di mi, vM mv (.text y) = some (.ref di) ∧ Mx K H w di mi ∧ (vM mi (keyN ns)).getD (.int 0) = V.int (kLook κ y ns : Nat)) := by
  obtain ⟨mv, hm, hk⟩ := h
  refine ⟨mv, hm, ?_⟩
  rcases kn_look (y := y) hk with ⟨h1, h2⟩ | ⟨r, x, h1, h2, h3, di, mi, h4, ho, h5, h6⟩
  · refine .inl ⟨h1, ?_⟩
    unfold kLook
    rw [h2]
  · refine .inr ⟨di, mi, by rw [h1, h4], h5, ?_⟩
    rw [rows_look h6]
    unfold kLook
    rw [h2]
section
variable {P : Program} {w : World} {K : PySem.W.Frag} {mg : Str → Option Value} {base : Heap} {f : Addr} {fd : FuncData}
abbrev n__law_value : List Str := ["_law_known", "_law_term_here", "_law_values", "_law_key", "_law_member"]
theorem sc__law_value : FnScope n__law_value ["_law_known", "_law_term_here", "_law_values"] (defScope s__law_value) := ⟨rfl, rfl, rfl, by decide +kernel, rfl, by decide +kernel, by decide +kernel⟩
theorem ok_lawvalue (F : Fun K "_law_value" "_law_value" s__law_value f fd) (m__law_value : mg "_law_value" = some (.ref f)) (b__law_value : Binds K fd ["_law_known", "_law_term_here", "_law_values"] []) (m_tuple : mg "tuple" = none) :
    ∀ d, FnOk P w K mg base CX0 d f fd ["_law_known", "_law_term_here", "_law_values"] (spLawValue K w d) := by
  have k__law_value := F.kp
  intro dd
  induction dd with
  | zero => exact ⟨fun vs H Q E h => by obtain ⟨_, _, _, _, _, _, _, _, _, _, _, _, _, h, _⟩ := h; omega, fun A outer s H args us vs Q E _ _ _ _ h => by obtain ⟨_, _, _, _, _, _, _, _, _, _, _, _, _, h, _⟩ := h; omega⟩
  | succ dd G__law_value =>
    refine F.ok (k := dd) sc__law_value (fun vs H Q E h => ?_) (fun cdv A outer s H vs Q E hr h => ?_)
    · obtain ⟨_, _, _, _, _, _, _, rfl, _⟩ := h
      rfl
    obtain ⟨kd, d, tv, t, ks, κ, ρ, rfl, hk, ht, hm, hen, hvar, hd, q⟩ := h
    refine ⟨_, (pss_cons (ps_if (pt_cmpR op_eq (pe_ix (ix_tupK (K := K)) (pv 1) pe_int (fun _ _ => rfl)) pe_str (nomark _))
  (pss_one (ps_ret (pe_mget (K := K) (w := w) (units40 hr) (pv 2) (pe_ix (ix_tupK (K := K)) (pv 1) pe_int (fun _ _ => rfl)) (fun _ _ => rfl))))
  pss_nil)
  (pss_cons (ps_set (i := 3) sc__law_value.nd rfl (.inl rfl) (pe_callTy (call_tuple_ofK (K := K)) (by rfl) m_tuple (by decide +kernel) (pa_cons (pe_lc (own := [("_law_member", 4)]) (g := gName 4) (tt := _) rfl sc__law_value.nd (pi_tup (pe_ix (ix_tupK (K := K)) (pv 1) pe_int (fun _ _ => rfl))) (blkOk_by (N := n__law_value) (sc := defScope s__law_value) (by decide +kernel)) (fun _ _ _ _ _ => (pg_name (i := 4) sc__law_value.nd rfl (.inl rfl))) (fun _ _ _ _ _ => pts_nil) (fun _ _ _ _ _ => (pe_call G__law_value (hr.mono (by omega)) (by rfl) m__law_value k__law_value b__law_value .nil pass0 (pa_cons (pv 0) (pa_cons (pv 4) (pa_cons (pv 2) pa_nil)))))) pa_nil)))
  (pss_one (ps_ret (pe_mget2 (K := K) (w := w) (units40 hr) (pe_mget2 (K := K) (w := w) (units40 hr) (pv 0) (pe_ix (ix_tupK (K := K)) (pv 1) pe_int (fun _ _ => rfl)) (pe_mnew (w := w)) ⟨by rfl, by rfl, by rfl, by rfl⟩) (pv 3) pe_int ⟨by rfl, by rfl, by rfl, by rfl⟩))))), ?_⟩
    cases t with
    | var k =>
      cases ht with
      | @var a _ kv h1 h2 h3 =>
        have hs := hvar k (List.mem_singleton.mpr rfl)
        have hv := hen k
        cases hr : ρ k with
        | none =>
          rw [hr] at hs
          cases hs
        | some n =>
          rw [hr] at hv
          refine ⟨_, rfl, a, _, 0, _, rfl, rfl, h1, rfl, rfl, _, rfl, ite2 (fun _ => ?_) (fun z => (z rfl).elim)⟩
          refine ⟨_, rfl, _, rfl, a, _, 1, _, rfl, rfl, h1, rfl, d, ks, k, _, rfl, hm, h2, h3, hv, ?_⟩
          have e := q H (Ex.refl H)
          unfold Tm.vl at e
          rw [hr] at e
          exact e
    | of x ts =>
      cases ht with
      | @of a b _ _ vs h1 h2 h3 h4 =>
        have lv := tmVs_len h3
        refine ⟨_, rfl, a, _, 0, _, rfl, rfl, h1, rfl, rfl, _, rfl, ite2 (fun z => ?_) (fun _ => ?_)⟩
        · exact absurd z (by decide +kernel)
        refine ⟨_, rfl, a, _, 2, _, rfl, rfl, h1, rfl, b, rfl, ⟨_, h2⟩, fun D nD => ?_⟩
        have dts : Tm.deeps ts < dd := by
          unfold Tm.deep at hd
          omega
        refine lc_tup (K := K) (a := b) (xs := vs) (fun j H' => Ex H H' ∧ H' D = some (.lst (vN (Tm.vls κ ρ (ts.take j))))) ⟨Ex.new nD, upd_same⟩ (fun i H' _ h => Evl.ex_t h.1 h2) ?_ ?_
        · rintro j v H3 hj ⟨e3, hD⟩
          obtain ⟨t, htj, htv⟩ := tmVs_take h3 hj
          have lj := (List.getElem?_eq_some_iff.mp hj).1
          refine ⟨rfl, _, rfl, _, rfl, _, rfl, kd, d, v, t, ks, κ, ρ, rfl, hk.mono e3, TmV.to (fun g => Evl.ex_t e3 g) _ _ htv, hm.mono e3, hen, (fun k hk => hvar k ?_), by have := deep_le htj; omega, fun H4 e4 => ?_⟩
          · refine List.mem_cons_of_mem _ ?_
            exact pres_of (List.mem_of_getElem? htj) hk
          · refine ⟨_, e4 _ _ hD, small1000 (by unfold vN; rw [List.length_map, vls_map, List.length_map, List.length_take]; omega), (e3.trans e4).mut nD, ?_⟩
            rw [upd_same, List.take_add_one, htj, vls_map, vls_map, List.map_append]
            unfold vN
            rw [List.map_append]
            rfl
        · rintro H3 ⟨e3, hD⟩
          rw [lv, List.take_length] at hD
          refine ⟨D, _, rfl, .inl ⟨SqL.of hD, fun t1 n1 => ?_⟩⟩
          have e4 := e3.trans (Ex.new (o := HO.tup (vN (Tm.vls κ ρ ts))) n1)
          have g1 := Evl.ex_t e4 h1
          have kt : SqT K (upd H3 t1 (.tup (vN (Tm.vls κ ρ ts)))) t1 (vN (Tm.vls κ ρ ts)) := SqT.of upd_same
          obtain ⟨mv, hmv, hc⟩ := kn_get (y := x) (ns := Tm.vls κ ρ ts) (hk.mono e4)
          refine ⟨_, rfl, kd, mv, rfl, hmv, _, rfl, a, _, 1, _, rfl, rfl, g1, rfl, fun D2 nD2 sD2 => ?_⟩
          have e5 : Ex (upd H3 t1 (.tup (vN (Tm.vls κ ρ ts)))) (upd (upd H3 t1 (.tup (vN (Tm.vls κ ρ ts)))) D2 (mxo D2 w [])) := Ex.new nD2
          refine ⟨mv, .text x, hmv.mono e5, .text x, (by simp [NestedKey.depth]), ?_⟩
          have kv := keyN_v (Evl.ex_t e5 kt)
          rcases hc with ⟨c1, c2⟩ | ⟨di, mi, c1, c2, c3⟩
          · rw [c1]
            have hD2 := Mx.new (K := K) (H := upd H3 t1 (.tup (vN (Tm.vls κ ρ ts)))) (w := w) sD2
            refine ⟨D2, [], rfl, hD2, _, rfl, [], keyN (Tm.vls κ ρ ts), hD2, kv, keyN_depth _, ?_⟩
            have e := q _ (e4.trans e5)
            unfold Tm.vl at e
            rw [c2] at e
            exact e
          · rw [c1]
            refine ⟨di, mi, rfl, c2.mono e5, _, rfl, mi, keyN (Tm.vls κ ρ ts), c2.mono e5, kv, keyN_depth _, ?_⟩
            rw [c3]
            have e := q _ (e4.trans e5)
            unfold Tm.vl at e
            exact e
end
end L2.Vf.K14
/-! Tables that grow. -/
namespace L2.Vf.K14
open PySem PySem.Spec PyProof.Rows
open Evl (Ex Ev EvT EvL EvA)
inductive KnL (K : PySem.W.Frag) (w : World) (G : Hp) : List Mv → Kn → List Addr → Prop
  | nil : KnL K w G [] [] []
  | cons {mv : List Mv} {κ : Kn} {zs : List Addr} (x : Str × List Rw) (z : Addr) (mi : List Mv) : G z = some (mxo z w mi) → Mx K G w z mi → Paired RsR mi x.2 → KnL K w G mv κ zs → KnL K w G ((.text x.1, .str x.1, .ref z) :: mv) (x :: κ) (z :: zs)
structure KnO (K : PySem.W.Frag) (w : World) (S : List Addr) (H : Hp) (kd : Addr) (κ : Kn) (zs : List Addr) : Prop where
  ex : ∃ mv, H kd = some (mxo kd w mv) ∧ Mx K (hide S H) w kd mv ∧ KnL K w (hide S H) mv κ zs
  off : kd ∉ S
  nd : (kd :: zs).Nodup
def sz (κ : Kn) : Nat := (κ.map fun x => x.2.length).sum
def KOk (qs : List (Str × Nat)) (κ : Kn) : Prop := (∀ x ∈ κ, 1 ≤ x.2.length ∧ (x.2.map (·.1)).Nodup ∧ ∃ m, (x.1, m) ∈ qs ∧ ∀ r ∈ x.2, r.1.length = m) ∧ (κ.map (·.1)).Nodup
section
variable {K : PySem.W.Frag} {w : World} {G G' H H' : Hp} {S : List Addr} {mv : List Mv} {κ : Kn} {zs : List Addr} {kd p c d : Addr}
theorem mx_t {ks : List Mv} (m : Mx K G w d ks) (t : ∀ {a : Addr} {xs : List V}, SqT K G a xs → SqT K G' a xs) (o : Rd G' d (mxo d w ks)) : Mx K G' w d ks :=
  ⟨o, fun p hp => ⟨KeyV.to t _ _ (m.key p hp).1, (m.key p hp).2⟩, m.one, m.len, m.sys⟩
theorem knl_keep (t : ∀ {a : Addr} {xs : List V}, SqT K G a xs → SqT K G' a xs) (h : KnL K w G mv κ zs) : (∀ z ∈ zs, G' z = G z) → KnL K w G' mv κ zs := by
  induction h with
  | nil => exact fun _ => .nil
  | @cons mv κ zs x z mi h1 h2 h3 _ ih =>
    intro st
    have hz := (st z List.mem_cons_self).trans h1
    exact .cons x z mi hz (mx_t h2 t (.inl hz)) h3 (ih fun y hy => st y (List.mem_cons_of_mem _ hy))
theorem knl_own (h : KnL K w G mv κ zs) : ∀ z ∈ zs, ∃ mi, G z = some (mxo z w mi) := by
  induction h with
  | nil => intro z hz; cases hz
  | @cons mv κ zs x z mi h1 h2 h3 _ ih =>
    intro y hy
    rcases List.mem_cons.mp hy with e | hy
    · rw [e]
      exact ⟨mi, h1⟩
    · exact ih y hy
theorem knl_r (h : KnL K w G mv κ zs) : Paired (KnR K w G) mv κ := by
  induction h with
  | nil => exact .nil
  | @cons mv κ zs x z mi h1 h2 h3 _ ih => exact .cons ⟨rfl, z, mi, rfl, h1, h2, h3⟩ ih
theorem knl_app {mv' : List Mv} {κ' : Kn} {zs' : List Addr} (h : KnL K w G mv κ zs) (g : KnL K w G mv' κ' zs') : KnL K w G (mv ++ mv') (κ ++ κ') (zs ++ zs') := by
  induction h with
  | nil => exact g
  | @cons mv κ zs x z mi h1 h2 h3 _ ih => exact .cons x z mi h1 h2 h3 ih
theorem knl_find {y : Str} (h : KnL K w G mv κ zs) : (vM mv (.text y) = none ∧ y ∉ κ.map (·.1)) ∨ ∃ (m1 m2 : List Mv) (κ1 κ2 : Kn) (z1 z2 : List Addr) (rows : List Rw) (z : Addr) (mi : List Mv), mv = m1 ++ (.text y, .str y, .ref z) :: m2 ∧ κ = κ1 ++ (y, rows) :: κ2 ∧ zs = z1 ++ z :: z2 ∧
    vM mv (.text y) = some (.ref z) ∧ KnL K w G m1 κ1 z1 ∧ KnL K w G m2 κ2 z2 ∧ G z = some (mxo z w mi) ∧ Mx K G w z mi ∧ Paired RsR mi rows := by
  induction h with
  | nil => exact .inl ⟨rfl, by simp⟩
  | @cons mv κ zs x z mi h1 h2 h3 t ih =>
    by_cases e : x.1 = y
    · refine .inr ⟨[], mv, [], κ, [], zs, x.2, z, mi, by rw [← e]; rfl, by rw [← e]; rfl, rfl, ?_, .nil, t, h1, h2, h3⟩
      unfold vM
      rw [List.find?_cons, decide_eq_true (show NestedKey.text x.1 = NestedKey.text y by rw [e])]
      rfl
    · have sk : vM ((.text x.1, .str x.1, .ref z) :: mv) (.text y) = vM mv (.text y) := by
        unfold vM
        rw [List.find?_cons, decide_eq_false (fun q => e (by injection q))]
      rcases ih with ⟨g1, g2⟩ | ⟨m1, m2, κ1, κ2, z1, z2, rows, z', mi', g1, g2, g3, g4, g5, g6⟩
      · exact .inl ⟨by rw [sk]; exact g1, fun q => by
          rw [List.map_cons] at q
          rcases List.mem_cons.mp q with q | q
          · exact e q.symm
          · exact g2 q⟩
      · exact .inr ⟨_ :: m1, m2, x :: κ1, κ2, z :: z1, z2, rows, z', mi', by rw [g1]; rfl, by rw [g2]; rfl, by rw [g3]; rfl, by rw [sk]; exact g4, .cons x z mi h1 h2 h3 g5, g6⟩
theorem KnO.keep (t : ∀ {a : Addr} {xs : List V}, SqT K (hide S H) a xs → SqT K (hide S H') a xs) (h : KnO K w S H kd κ zs) (st : ∀ z ∈ kd :: zs, H' z = H z) : KnO K w S H' kd κ zs := by
  obtain ⟨⟨mv, h1, h2, h3⟩, off, nd⟩ := h
  have hk := (st kd List.mem_cons_self).trans h1
  refine ⟨⟨mv, hk, mx_t h2 t (.inl (by rw [hide_off off]; exact hk)), knl_keep t h3 fun z hz => ?_⟩, off, nd⟩
  obtain ⟨mi, ho⟩ := knl_own h3 z hz
  have zS : z ∉ S := fun y => by
    rw [hide, if_pos y] at ho
    cases ho
  rw [hide_off zS, hide_off zS]
  exact st z (List.mem_cons_of_mem _ hz)
theorem KnO.own (h : KnO K w S H kd κ zs) : ∀ z ∈ kd :: zs, z ∉ S ∧ ∃ mi, H z = some (mxo z w mi) := by
  obtain ⟨⟨mv, h1, h2, h3⟩, off, nd⟩ := h
  intro z hz
  rcases List.mem_cons.mp hz with e | hz
  · rw [e]
    exact ⟨off, mv, h1⟩
  · obtain ⟨mi, ho⟩ := knl_own h3 z hz
    have zS : z ∉ S := fun y => by
      rw [hide, if_pos y] at ho
      cases ho
    rw [hide_off zS] at ho
    exact ⟨zS, mi, ho⟩
theorem KnO.but (b : But S H H') (h : KnO K w S H kd κ zs) : KnO K w S H' kd κ zs :=
  h.keep (fun g => Evl.ex_t b g) fun z hz => by
    obtain ⟨zS, mi, ho⟩ := h.own z hz
    rw [ho]
    exact b.get zS ho
theorem KnO.knv (h : KnO K w S H kd κ zs) : KnV K w H kd κ := by
  obtain ⟨⟨mv, h1, h2, h3⟩, off, nd⟩ := h
  exact ⟨mv, h2.mono hide_ex, pairedTo (knl_r h3) fun _ _ g => g.mono hide_ex⟩
/-- what lies outside the tables stays -/
abbrev Fr4 (p c kd : Addr) (zs : List Addr) (H H' : Hp) : Prop := But (p :: c :: kd :: zs) H H'
theorem fr_trans {H1 H2 : Hp} {zs1 : List Addr} (a : Fr4 p c kd zs H H1) (n : ∀ z ∈ zs1, z ∈ zs ∨ H z = none) (b : Fr4 p c kd zs1 H1 H2) : Fr4 p c kd zs H H2 := But.by fun x o nx h => by
  refine b.get (fun y => nx ?_) (a.get nx h)
  simp only [List.mem_cons] at y ⊢
  rcases y with y | y | y | y
  · exact .inl y
  · exact .inr (.inl y)
  · exact .inr (.inr (.inl y))
  · rcases n x y with y | y
    · exact .inr (.inr (.inr y))
    · rw [h] at y
      cases y
theorem fr_of (b : But [p, c] H H') : Fr4 p c kd zs H H' := b.more fun x hx => by
  simp only [List.mem_cons, List.not_mem_nil, or_false] at hx ⊢
  rcases hx with hx | hx
  · exact .inl hx
  · exact .inr (.inl hx)
theorem fr_obj (h : KnO K w [p, c] H kd κ zs) (e : Fr4 p c kd zs H H') {a : Addr} {u : HO} (hu : ∀ φ, u ≠ .ext φ) (ha : hide [p, c] H a = some u) : hide [p, c] H' a = some u := by
  by_cases z : a ∈ [p, c]
  · rw [hide, if_pos z] at ha
    cases ha
  rw [hide_off z] at ha ⊢
  refine e.get (fun y => ?_) ha
  simp only [List.mem_cons] at y
  simp only [List.mem_cons, List.not_mem_nil, or_false, not_or] at z
  rcases y with y | y | y | y
  · exact z.1 y
  · exact z.2 y
  · obtain ⟨_, mi, ho⟩ := h.own a (by rw [y]; exact List.mem_cons_self)
    rw [ho] at ha
    exact hu _ (Option.some.inj ha).symm
  · obtain ⟨_, mi, ho⟩ := h.own a (List.mem_cons_of_mem _ y)
    rw [ho] at ha
    exact hu _ (Option.some.inj ha).symm
theorem fr_t (h : KnO K w [p, c] H kd κ zs) (e : Fr4 p c kd zs H H') {a : Addr} {xs : List V} (g : SqT K (hide [p, c] H) a xs) : SqT K (hide [p, c] H') a xs := by
  rcases g with (g | ⟨o, g⟩) | g
  · exact .inl (.inl (fr_obj h e (fun _ z => by cases z) g))
  · exact .inl (.inr ⟨o, fr_obj h e (fun _ z => by cases z) g⟩)
  · exact .inr g
theorem fr_l (h : KnO K w [p, c] H kd κ zs) (e : Fr4 p c kd zs H H') {a : Addr} {xs : List V} (g : SqL K (hide [p, c] H) a xs) : SqL K (hide [p, c] H') a xs := by
  rcases g with (g | ⟨o, g⟩) | g
  · exact .inl (.inl (fr_obj h e (fun _ z => by cases z) g))
  · exact .inl (.inr ⟨o, fr_obj h e (fun _ z => by cases z) g⟩)
  · exact .inr g
theorem fr_mx {ks : List Mv} (h : KnO K w [p, c] H kd κ zs) (e : Fr4 p c kd zs H H') (m : Mx K (hide [p, c] H) w d ks) (n : d ∉ kd :: zs) : Mx K (hide [p, c] H') w d ks := by
  refine mx_t m (fun g => fr_t h e g) ?_
  rcases m.obj with g | ⟨od, g⟩
  · refine .inl ?_
    by_cases z : d ∈ [p, c]
    · rw [hide, if_pos z] at g
      cases g
    rw [hide_off z] at g ⊢
    refine e.get (fun y => ?_) g
    simp only [List.mem_cons] at y n
    simp only [List.mem_cons, List.not_mem_nil, or_false, not_or] at z
    rcases y with y | y | y
    · exact z.1 y
    · exact z.2 y
    · exact n y
  · exact .inr ⟨od, fr_obj h e (fun _ z => by cases z) g⟩
end
end L2.Vf.K14
/-! A result is put into a table. -/
namespace L2.Vf.K14
open PySem PySem.Spec PyProof.Rows
open Evl (Ex Ev EvT EvL EvA)
structure TabD (K : PySem.W.Frag) (w : World) (S : List Addr) (H : Hp) (kd : Addr) (y : Str) (κ : Kn) (zs : List Addr) (D : Addr) (rows : List Rw) (mi mv : List Mv) : Prop where
  own : H D = some (mxo D w mi)
  mx : Mx K (hide S H) w D mi
  rs : Paired RsR mi rows
  off : D ∉ S
  kown : H kd = some (mxo kd w mv)
  kmx : Mx K (hide S H) w kd mv
  koff : kd ∉ S
  nd : (kd :: zs).Nodup
  alt : (∃ m1 m2 κ1 κ2 z1 z2, mv = m1 ++ (.text y, .str y, .ref D) :: m2 ∧ κ = κ1 ++ (y, rows) :: κ2 ∧ zs = z1 ++ D :: z2 ∧ KnL K w (hide S H) m1 κ1 z1 ∧ KnL K w (hide S H) m2 κ2 z2) ∨ (D ∉ kd :: zs ∧ y ∉ κ.map (·.1) ∧ rows = [] ∧ KnL K w (hide S H) mv κ zs)
/-- what became of the tables -/
def Grew (y : Str) (ns : List Nat) (v : Nat) (rows : List Rw) (D : Addr) (κ κ' : Kn) (zs zs' : List Addr) : Prop :=
  (∃ κ1 κ2, κ = κ1 ++ (y, rows) :: κ2 ∧ κ' = κ1 ++ (y, rows ++ [(ns, v)]) :: κ2 ∧ zs' = zs) ∨ (y ∉ κ.map (·.1) ∧ rows = [] ∧ κ' = κ ++ [(y, [(ns, v)])] ∧ zs' = zs ++ [D])
section
variable {K : PySem.W.Frag} {w : World} {G G' H H' : Hp} {S : List Addr} {mi mv : List Mv} {κ κ' : Kn} {zs zs' : List Addr} {kd p c d D t1 : Addr} {y : Str} {rows : List Rw} {ns : List Nat} {v : Nat}
theorem knl_ex (e : Ex G G') (h : KnL K w G mv κ zs) : KnL K w G' mv κ zs := by
  induction h with
  | nil => exact .nil
  | @cons mv κ zs x z mi h1 h2 h3 _ ih => exact .cons x z mi (e _ _ h1) (h2.mono e) h3 ih
theorem knl_keys (h : KnL K w G mv κ zs) : mv.map (·.1) = κ.map fun x => NestedKey.text x.1 := by
  induction h with
  | nil => rfl
  | @cons mv κ zs x z mi h1 h2 h3 _ ih => rw [List.map_cons, List.map_cons, ih]
theorem TabD.but (b : But S H H') (T : TabD K w S H kd y κ zs D rows mi mv) : TabD K w S H' kd y κ zs D rows mi mv := by
  refine ⟨b.get T.off T.own, T.mx.mono b, T.rs, T.off, b.get T.koff T.kown, T.kmx.mono b, T.koff, T.nd, ?_⟩
  rcases T.alt with ⟨m1, m2, κ1, κ2, z1, z2, h1, h2, h3, h4, h5⟩ | ⟨h1, h2, h3, h4⟩
  · exact .inl ⟨m1, m2, κ1, κ2, z1, z2, h1, h2, h3, knl_ex b h4, knl_ex b h5⟩
  · exact .inr ⟨h1, h2, h3, knl_ex b h4⟩
theorem TabD.ne (T : TabD K w S H kd y κ zs D rows mi mv) : D ≠ kd := by
  rcases T.alt with ⟨m1, m2, κ1, κ2, z1, z2, h1, h2, h3, h4, h5⟩ | ⟨h1, h2, h3, h4⟩
  · intro z
    have nd := T.nd
    rw [h3, z, List.nodup_cons] at nd
    exact nd.1 (by simp)
  · exact fun z => h1 (by rw [z]; exact List.mem_cons_self)
theorem pM_same {ks : List Mv} {k : NestedKey} {kv u : V} (n : (ks.map (·.1)).Nodup) (h : vM ks k = some u) : pM ks k kv u = ks := by
  unfold pM
  rw [if_pos (by rw [h]; rfl)]
  have : ks.map (fun p => if p.1 = k then (p.1, p.2.1, u) else p) = ks.map id := by
    refine List.map_congr_left fun q hq => ?_
    by_cases e : q.1 = k
    · obtain ⟨j, hj⟩ := List.mem_iff_getElem?.mp hq
      have z := vM_at n hj
      rw [e, h] at z
      have z := Option.some.inj z
      rw [if_pos e, z]
      rfl
    · rw [if_neg e]
      rfl
  rw [this, List.map_id]
theorem upd_id {H : Hp} {a : Addr} {o : HO} (h : H a = some o) : upd H a o = H := by
  funext b
  by_cases e : b = a
  · rw [e, upd_same, h]
  · rw [upd_ne e]
theorem grow_put (T : TabD K w S H kd y κ zs D rows mi mv) (hkt : SqT K (hide S H) t1 (vN ns)) (hns : ns ∉ rows.map (·.1)) (l1 : mi.length < 1000) (l2 : mv.length < 1000) :
    let H1 := upd H D (mxo D w (pM mi (keyN ns) (.ref t1) (.int (v : Int))))
    let H2 := upd H1 kd (mxo kd w (pM mv (.text y) (.str y) (.ref D)))
    H1 kd = some (mxo kd w mv) ∧ Mx K (hide S H1) w kd mv ∧ (∀ {a : Addr} {xs : List V}, SqT K (hide S H) a xs → SqT K (hide S H1) a xs) ∧
    ∃ (κ' : Kn) (zs' : List Addr) (mi' mv' : List Mv), TabD K w S H2 kd y κ' zs' D (rows ++ [(ns, v)]) mi' mv' ∧ KnO K w S H2 kd κ' zs' ∧ Grew y ns v rows D κ κ' zs zs' ∧ (∀ {a : Addr} {xs : List V}, SqT K (hide S H) a xs → SqT K (hide S H2) a xs) ∧ (∀ b, b ≠ D → b ≠ kd → H2 b = H b) := by
  intro H1 H2
  have dk := T.ne
  have nk : keyN ns ∉ mi.map (·.1) := fun z => by
    obtain ⟨q, hq, e⟩ := List.mem_map.mp z
    obtain ⟨r, hr, e1, _⟩ := paired_mem T.rs hq
    exact hns (List.mem_map.mpr ⟨r, hr, keyN_inj (e1.symm.trans e)⟩)
  have hD : hide S H D = some (mxo D w mi) := by rw [hide_off T.off]; exact T.own
  have h1e : hide S H1 = upd (hide S H) D (mxo D w (pM mi (keyN ns) (.ref t1) (.int (v : Int)))) := hide_upd T.off
  have t01 : ∀ {a : Addr} {xs : List V}, SqT K (hide S H) a xs → SqT K (hide S H1) a xs := fun g => by rw [h1e]; exact off_ext hD g
  have k1 : H1 kd = some (mxo kd w mv) := by
    show upd H D _ kd = _
    rw [upd_ne dk.symm]
    exact T.kown
  have km1 : Mx K (hide S H1) w kd mv := mx_t T.kmx t01 (.inl (by rw [hide_off T.koff]; exact k1))
  have mD1 : Mx K (hide S H1) w D (pM mi (keyN ns) (.ref t1) (.int (v : Int))) := by
    rw [h1e]
    exact T.mx.put hD (keyN_v hkt) (keyN_depth _) l1
  have hk1 : hide S H1 kd = some (mxo kd w mv) := by rw [hide_off T.koff]; exact k1
  have h2e : hide S H2 = upd (hide S H1) kd (mxo kd w (pM mv (.text y) (.str y) (.ref D))) := hide_upd T.koff
  have t12 : ∀ {a : Addr} {xs : List V}, SqT K (hide S H1) a xs → SqT K (hide S H2) a xs := fun g => by rw [h2e]; exact off_ext hk1 g
  have D2 : H2 D = some (mxo D w (pM mi (keyN ns) (.ref t1) (.int (v : Int)))) := by
    show upd H1 kd _ D = _
    rw [upd_ne dk]
    exact upd_same
  have mD2 : Mx K (hide S H2) w D (pM mi (keyN ns) (.ref t1) (.int (v : Int))) := mx_t mD1 t12 (.inl (by rw [hide_off T.off]; exact D2))
  have k2 : H2 kd = some (mxo kd w (pM mv (.text y) (.str y) (.ref D))) := upd_same
  have mk2 : Mx K (hide S H2) w kd (pM mv (.text y) (.str y) (.ref D)) := by
    rw [h2e]
    exact km1.put hk1 (.text y) (by simp [NestedKey.depth]) l2
  have rs' : Paired RsR (pM mi (keyN ns) (.ref t1) (.int (v : Int))) (rows ++ [(ns, v)]) := by
    rw [pM_new nk]
    exact pairApp T.rs (.cons ⟨rfl, rfl⟩ .nil)
  have frame : ∀ b, b ≠ D → b ≠ kd → H2 b = H b := fun b n1 n2 => by
    show upd (upd H D _) kd _ b = _
    rw [upd_ne n2, upd_ne n1]
  have t02 : ∀ {a : Addr} {xs : List V}, SqT K (hide S H) a xs → SqT K (hide S H2) a xs := fun g => t12 (t01 g)
  have hid : ∀ b, b ≠ D → b ≠ kd → hide S H2 b = hide S H b := fun b n1 n2 => by
    unfold hide
    rw [frame b n1 n2]
  refine ⟨k1, km1, t01, ?_⟩
  rcases T.alt with ⟨m1, m2, κ1, κ2, z1, z2, h1, h2, h3, h4, h5⟩ | ⟨h1, h2, h3, h4⟩
  · have same : pM mv (.text y) (.str y) (.ref D) = mv := by
      refine pM_same T.kmx.one ?_
      have hj : mv[m1.length]? = some (.text y, .str y, .ref D) := by rw [h1]; simp
      exact vM_at T.kmx.one hj
    have nd := T.nd
    rw [h3, List.nodup_cons, List.nodup_append] at nd
    obtain ⟨nk0, _, nd2, nd3⟩ := nd
    rw [List.nodup_cons] at nd2
    have n4 : ∀ z ∈ z1, hide S H2 z = hide S H z := fun z hz => hid z (fun e => nd3 z hz D List.mem_cons_self e) (fun e => nk0 (by rw [← e]; exact List.mem_append_left _ hz))
    have n5 : ∀ z ∈ z2, hide S H2 z = hide S H z := fun z hz => hid z (fun e => nd2.1 (by rw [← e]; exact hz)) (fun e => nk0 (by rw [← e]; exact List.mem_append_right _ (List.mem_cons_of_mem _ hz)))
    have l1 := knl_keep t02 h4 n4
    have l2 := knl_keep t02 h5 n5
    rw [same] at k2 mk2
    refine ⟨κ1 ++ (y, rows ++ [(ns, v)]) :: κ2, zs, _, mv, ⟨D2, mD2, rs', T.off, k2, mk2, T.koff, T.nd, .inl ⟨m1, m2, κ1, κ2, z1, z2, h1, rfl, h3, l1, l2⟩⟩, ⟨⟨mv, k2, mk2, ?_⟩, T.koff, T.nd⟩, .inl ⟨κ1, κ2, h2, rfl, rfl⟩, t02, frame⟩
    rw [h1, h3]
    exact knl_app l1 (.cons (y, rows ++ [(ns, v)]) D _ (by rw [hide_off T.off]; exact D2) mD2 rs' l2)
  · have new : NestedKey.text y ∉ mv.map (·.1) := fun z => by
      rw [knl_keys h4] at z
      obtain ⟨x, hx, e⟩ := List.mem_map.mp z
      injection e with e
      exact h2 (List.mem_map.mpr ⟨x, hx, e⟩)
    rw [pM_new new] at k2 mk2
    have l4 := knl_keep t02 h4 fun z hz => hid z (fun e => h1 (by rw [← e]; exact List.mem_cons_of_mem _ hz)) (fun e => by
      have nd := T.nd
      rw [List.nodup_cons] at nd
      exact nd.1 (by rw [← e]; exact hz))
    have nd' : (kd :: (zs ++ [D])).Nodup := by
      have nd := T.nd
      rw [List.nodup_cons] at nd
      rw [List.nodup_cons, List.nodup_append]
      refine ⟨fun z => ?_, nd.2, by simp, fun a ha b hb e => ?_⟩
      · rcases List.mem_append.mp z with z | z
        · exact nd.1 z
        · exact dk (List.mem_singleton.mp z).symm
      · rw [e, List.mem_singleton.mp hb] at ha
        exact h1 (List.mem_cons_of_mem _ ha)
    subst h3
    refine ⟨κ ++ [(y, [(ns, v)])], zs ++ [D], _, mv ++ [(.text y, .str y, .ref D)], ⟨D2, mD2, rs', T.off, k2, mk2, T.koff, nd', .inl ⟨mv, [], κ, [], zs, [], rfl, rfl, rfl, l4, .nil⟩⟩, ⟨⟨_, k2, mk2, ?_⟩, T.koff, nd'⟩, .inr ⟨h2, rfl, rfl, rfl⟩, t02, frame⟩
    exact knl_app l4 (.cons (y, [(ns, v)]) D _ (by rw [hide_off T.off]; exact D2) mD2 rs' .nil)
theorem sz_app (a b : Kn) : sz (a ++ b) = sz a + sz b := by
  unfold sz
  rw [List.map_append, List.sum_append]
theorem grew_ok {qs : List (Str × Nat)} (g : Grew y ns v rows D κ κ' zs zs') (ok : KOk qs κ) (hq : (qs.map (·.1)).Nodup) (hy : (y, ns.length) ∈ qs) (hns : ns ∉ rows.map (·.1)) : KOk qs κ' ∧ sz κ' = sz κ + 1 := by
  obtain ⟨ok1, ok2⟩ := ok
  have arity : ∀ {m : Nat}, (y, m) ∈ qs → m = ns.length := fun {m} h => by
    obtain ⟨i, hi⟩ := List.mem_iff_getElem?.mp h
    obtain ⟨j, hj⟩ := List.mem_iff_getElem?.mp hy
    have q1 : (qs.map (·.1))[i]? = some y := by rw [List.getElem?_map, hi]; rfl
    have q2 : (qs.map (·.1))[j]? = some y := by rw [List.getElem?_map, hj]; rfl
    have := (List.getElem?_inj (List.getElem?_eq_some_iff.mp q1).1 hq).mp (q1.trans q2.symm)
    subst this
    rw [hi] at hj
    exact congrArg (·.2) (Option.some.inj hj)
  rcases g with ⟨κ1, κ2, rfl, rfl, _⟩ | ⟨h1, rfl, rfl, _⟩
  · have e : (κ1 ++ (y, rows ++ [(ns, v)]) :: κ2).map (·.1) = (κ1 ++ (y, rows) :: κ2).map (·.1) := by simp
    refine ⟨⟨fun x hx => ?_, by rw [e]; exact ok2⟩, ?_⟩
    · rcases List.mem_append.mp hx with z | z
      · exact ok1 x (List.mem_append_left _ z)
      · rcases List.mem_cons.mp z with z | z
        · obtain ⟨a1, a2, m, a3, a4⟩ := ok1 (y, rows) (by simp)
          rw [z]
          refine ⟨by simp, ?_, m, a3, fun r hr => ?_⟩
          · rw [List.map_append, List.nodup_append]
            refine ⟨a2, by simp, fun u hu v' hv e => ?_⟩
            rw [e, List.mem_singleton.mp hv] at hu
            exact hns hu
          · rcases List.mem_append.mp hr with q | q
            · exact a4 r q
            · rw [List.mem_singleton.mp q]
              exact (arity a3).symm
        · exact ok1 x (List.mem_append_right _ (List.mem_cons_of_mem _ z))
    · rw [sz_app, sz_app]
      unfold sz
      simp only [List.map_cons, List.sum_cons, List.length_append, List.length_cons, List.length_nil]
      omega
  · refine ⟨⟨fun x hx => ?_, ?_⟩, ?_⟩
    · rcases List.mem_append.mp hx with z | z
      · exact ok1 x z
      · rw [List.mem_singleton.mp z]
        refine ⟨by simp, by simp, ns.length, hy, fun r hr => ?_⟩
        rw [List.mem_singleton.mp hr]
    · rw [List.map_append, List.nodup_append]
      refine ⟨ok2, by simp, fun u hu v' hv e => ?_⟩
      rw [e] at hu
      have : v' = y := by simpa using hv
      rw [this] at hu
      exact h1 hu
    · rw [sz_app]
      rfl
theorem rows_sz : ∀ {κ : Kn} {x : Str × List Rw}, x ∈ κ → x.2.length ≤ sz κ
  | [], _, h => by cases h
  | y :: κ, x, h => by
    unfold sz
    rw [List.map_cons, List.sum_cons]
    rcases List.mem_cons.mp h with e | h
    · rw [e]
      omega
    · have := rows_sz h
      unfold sz at this
      omega
theorem kok_len {qs : List (Str × Nat)} : ∀ {κ : Kn}, (∀ x ∈ κ, 1 ≤ x.2.length ∧ (x.2.map (·.1)).Nodup ∧ ∃ m, (x.1, m) ∈ qs ∧ ∀ r ∈ x.2, r.1.length = m) → κ.length ≤ sz κ
  | [], _ => Nat.le_refl _
  | y :: κ, h => by
    have := kok_len fun x hx => h x (List.mem_cons_of_mem _ hx)
    have := (h y List.mem_cons_self).1
    unfold sz at *
    rw [List.map_cons, List.sum_cons, List.length_cons]
    omega
end
end L2.Vf.K14
/-! The tables grow while a term is walked. -/
namespace L2.Vf.K14
open PySem PySem.Spec PyProof.Rows
open Evl (Ex Ev EvT EvL EvA)
abbrev s__law_grown : Stmt := top 30
def spGrown (K : PySem.W.Frag) (w : World) (n : Nat) : Sp := fun vs H Q _ => ∃ (p c kd d : Addr) (tv : V) (t : Tm) (ks : List Mv) (κ : Kn) (zs : List Addr) (ρ : NestedKey → Option Nat) (qs : List (Str × Nat)) (kk : List NestedKey) (dd : Nat), vs = [.ref p, .ref kd, tv, .ref d] ∧ Src H p c ∧ KnO K w [p, c] H kd κ zs ∧
  TmV K (hide [p, c] H) t tv ∧ Mx K (hide [p, c] H) w d ks ∧ d ∉ kd :: zs ∧ EnR ks ρ ∧ (∀ k, Tm.var k ∈ t.pre → (ρ k).isSome = true) ∧ TmIn qs kk dd t ∧ t.deep < n ∧ KOk qs κ ∧ (qs.map (·.1)).Nodup ∧ sz κ + t.pre.length ≤ 800 ∧
  ∀ (x : Nat) H' κ' zs', Src H' p c → KnO K w [p, c] H' kd κ' zs' → KOk qs κ' → sz κ' ≤ sz κ + t.pre.length → (∀ z ∈ zs', z ∈ zs ∨ H z = none) → Fr4 p c kd zs H H' → Q (.int (x : Int)) H'
theorem pres_take {ts : List Tm} {t : Tm} {j : Nat} (h : ts[j]? = some t) : (Tm.pres (ts.take (j + 1))).length = (Tm.pres (ts.take j)).length + t.pre.length := by
  rw [List.take_add_one, h, pres_app, List.length_append]
  show _ + (t.pre ++ []).length = _
  rw [List.append_nil]
theorem pres_le (ts : List Tm) (j : Nat) : (Tm.pres (ts.take j)).length ≤ (Tm.pres ts).length := by
  have e : Tm.pres ts = Tm.pres (ts.take j) ++ Tm.pres (ts.drop j) := by rw [← pres_app, List.take_append_drop]
  rw [e, List.length_append]
  omega
theorem tmsIn_get {qs : List (Str × Nat)} {ks : List NestedKey} {d : Nat} : ∀ {ts : List Tm} {j : Nat} {t : Tm}, TmsIn qs ks d ts → ts[j]? = some t → TmIn qs ks d t
  | [], j, t, _, h => by simp at h
  | y :: ts, 0, t, h, e => by
    obtain rfl := Option.some.inj e
    unfold TmsIn at h
    exact h.1
  | y :: ts, j + 1, t, h, e => by
    unfold TmsIn at h
    exact tmsIn_get h.2 (by simpa using e)
theorem rs_in : ∀ {mi : List Mv} {rows : List Rw}, Paired RsR mi rows → ∀ {ns : List Nat}, ns ∈ rows.map (·.1) → keyN ns ∈ mi.map (·.1)
  | _, _, .nil, ns, h => by cases h
  | _, _, .cons (a := q) (b := r) h t, ns, hn => by
    rw [List.map_cons] at hn ⊢
    rcases List.mem_cons.mp hn with e | hn
    · rw [e, ← h.1]
      exact List.mem_cons_self
    · exact List.mem_cons_of_mem _ (rs_in t hn)
theorem menu_nat {j : Nat} {v : V} (h : [V.int 0, V.int 1, V.int 2, V.int 3, V.int 4, V.int 5, V.int (10 ^ 20)][j]? = some v) : ∃ n : Nat, v = V.int (n : Int) := by
  match j, h with
  | 0, h => exact ⟨0, (Option.some.inj h).symm⟩
  | 1, h => exact ⟨1, (Option.some.inj h).symm⟩
  | 2, h => exact ⟨2, (Option.some.inj h).symm⟩
  | 3, h => exact ⟨3, (Option.some.inj h).symm⟩
  | 4, h => exact ⟨4, (Option.some.inj h).symm⟩
  | 5, h => exact ⟨5, (Option.some.inj h).symm⟩
  | 6, h => exact ⟨10 ^ 20, (Option.some.inj h).symm⟩
  | j + 7, h => simp at h
theorem vN_snoc (xs : List Nat) (x : Nat) : vN (xs ++ [x]) = vN xs ++ [V.int (x : Int)] := by
  unfold vN
  rw [List.map_append]
  rfl
section
variable {P : Program} {w : World} {K : PySem.W.Frag} {mg : Str → Option Value} {base : Heap} {f : Addr} {fd : FuncData}
theorem fr_none {p c kd z : Addr} {zs zs3 : List Addr} {κ3 : Kn} {H H3 : Hp} (S3 : Src H3 p c) (K3 : KnO K w [p, c] H3 kd κ3 zs3) (f : Fr4 p c kd zs H H3) (h : H3 z = none) : z ∈ zs ∨ H z = none := by
  cases ho : H z with
  | none => exact .inr rfl
  | some o =>
    refine .inl (Classical.byContradiction fun nz => ?_)
    by_cases hz : z ∈ p :: c :: kd :: zs
    · simp only [List.mem_cons] at hz
      rcases hz with e | e | e | e
      · obtain ⟨u, hu⟩ := S3.kn p (by simp)
        rw [e, hu] at h
        cases h
      · obtain ⟨u, hu⟩ := S3.kn c (by simp)
        rw [e, hu] at h
        cases h
      · obtain ⟨_, mi, hu⟩ := K3.own kd List.mem_cons_self
        rw [e, hu] at h
        cases h
      · exact nz e
    · rw [f.get hz ho] at h
      cases h
abbrev n__law_grown : List Str := ["_law_source_here", "_law_known", "_law_term_here", "_law_values", "_law_key", "_law_table", "_law_member"]
theorem sc__law_grown : FnScope n__law_grown ["_law_source_here", "_law_known", "_law_term_here", "_law_values"] (defScope s__law_grown) := ⟨rfl, rfl, rfl, by decide +kernel, rfl, by decide +kernel, by decide +kernel⟩
theorem ok_grown (F : Fun K "_law_grown" "_law_grown" s__law_grown f fd) (m__law_grown : mg "_law_grown" = some (.ref f)) (b__law_grown : Binds K fd ["_law_source_here", "_law_known", "_law_term_here", "_law_values"] []) (m_tuple : mg "tuple" = none)
    (hp : Has P w K mg base 1 "_law_pick" ["_law_source_here", "_law_many"] spPick) (ho : Has P w K mg base 2 "_law_of" ["_law_source_here", "_law_some"] (spOf K)) :
    ∀ d, FnOk P w K mg base CX0 (2 + d) f fd ["_law_source_here", "_law_known", "_law_term_here", "_law_values"] (spGrown K w d) := by
  have k__law_grown := F.kp
  obtain ⟨f1, fd1, G__law_pick, m__law_pick, k__law_pick, b__law_pick⟩ := hp
  obtain ⟨f2, fd2, G__law_of, m__law_of, k__law_of, b__law_of⟩ := ho
  intro n
  induction n with
  | zero => exact ⟨fun vs H Q E h => by obtain ⟨_, _, _, _, _, _, _, _, _, _, _, _, _, _, _, _, _, _, _, _, _, _, h, _⟩ := h; omega, fun A outer s H args us vs Q E _ _ _ _ h => by obtain ⟨_, _, _, _, _, _, _, _, _, _, _, _, _, _, _, _, _, _, _, _, _, _, h, _⟩ := h; omega⟩
  | succ n G__law_grown =>
    refine F.ok (k := 2 + n) sc__law_grown (fun vs H Q E h => ?_) (fun cdv A outer s H vs Q E hr h => ?_)
    · obtain ⟨_, _, _, _, _, _, _, _, _, _, _, _, _, rfl, _⟩ := h
      rfl
    obtain ⟨p, c, kd, d, tv, t, ks, κ, zs, ρ, qs, kk, dd, rfl, hS, hK, ht, hm, dn, hen, hvar, hin, hd, hok, hq, bnd, q⟩ := h
    refine ⟨_, (pss_cons (ps_if (pt_cmpR op_eq (pe_ix (ix_tupK (K := K)) (pv 2) pe_int (fun _ _ => rfl)) pe_str (nomark _))
  (pss_one (ps_ret (pe_mget (K := K) (w := w) (units40 hr) (pv 3) (pe_ix (ix_tupK (K := K)) (pv 2) pe_int (fun _ _ => rfl)) (fun _ _ => rfl))))
  pss_nil)
  (pss_cons (ps_set (i := 4) sc__law_grown.nd rfl (.inl rfl) (pe_callTy (call_tuple_ofK (K := K)) (by rfl) m_tuple (by decide +kernel) (pa_cons (pe_lc (own := [("_law_member", 6)]) (g := gName 6) (tt := _) rfl sc__law_grown.nd (pi_tup (pe_ix (ix_tupK (K := K)) (pv 2) pe_int (fun _ _ => rfl))) (blkOk_by (N := n__law_grown) (sc := defScope s__law_grown) (by decide +kernel)) (fun _ _ _ _ _ => (pg_name (i := 6) sc__law_grown.nd rfl (.inl rfl))) (fun _ _ _ _ _ => pts_nil) (fun _ _ _ _ _ => (pe_call G__law_grown (hr.mono (by omega)) (by rfl) m__law_grown k__law_grown b__law_grown .nil pass0 (pa_cons (pv 0) (pa_cons (pv 1) (pa_cons (pv 6) (pa_cons (pv 3) pa_nil))))))) pa_nil)))
  (pss_cons (ps_set (i := 5) sc__law_grown.nd rfl (.inl rfl) (pe_mget2 (K := K) (w := w) (units40 hr) (pv 1) (pe_ix (ix_tupK (K := K)) (pv 2) pe_int (fun _ _ => rfl)) (pe_mnew (w := w)) ⟨by rfl, by rfl, by rfl, by rfl⟩))
  (pss_cons (ps_if (PW.pt (pw_and (pt_cmpR (op_notInM (K := K) (w := w) (units40 hr)) (pv 4) (pv 5) (by rfl)) (pw_and1 (pt_cmpR op_gt (pe_call G__law_pick (hr.mono (by omega)) (by rfl) m__law_pick k__law_pick b__law_pick .nil pass0 (pa_cons (pv 0) (pa_cons pe_int pa_nil))) pe_int (nomark _)))))
  (pss_cons (ps_mput (K := K) (w := w) (units40 hr) (pv 5) (pv 4) (pe_call G__law_of (hr.mono (by omega)) (by rfl) m__law_of k__law_of b__law_of .nil pass0 (pa_cons (pv 0) (pa_cons (pe_lst (pa_cons pe_int (pa_cons pe_int (pa_cons pe_int (pa_cons pe_int (pa_cons pe_int (pa_cons pe_int (pa_cons (pe_op op_pow pe_int pe_int) pa_nil)))))))) pa_nil))) rfl)
  (pss_one (ps_mput (K := K) (w := w) (units40 hr) (pv 1) (pe_ix (ix_tupK (K := K)) (pv 2) pe_int (fun _ _ => rfl)) (pv 5) rfl)))
  pss_nil)
  (pss_one (ps_ret (pe_mget2 (K := K) (w := w) (units40 hr) (pv 5) (pv 4) pe_int ⟨by rfl, by rfl, by rfl, by rfl⟩))))))), ?_⟩
    cases t with
    | var k =>
      cases ht with
      | @var a _ kv h1 h2 h3 =>
        have hs := hvar k (List.mem_singleton.mpr rfl)
        have hv := hen k
        cases hr : ρ k with
        | none =>
          rw [hr] at hs
          cases hs
        | some m =>
          rw [hr] at hv
          have g1 := Evl.ex_t hide_ex h1
          refine ⟨_, rfl, a, _, 0, _, rfl, rfl, g1, rfl, rfl, _, rfl, ite2 (fun _ => ?_) (fun z => (z rfl).elim)⟩
          refine ⟨_, rfl, _, rfl, a, _, 1, _, rfl, rfl, g1, rfl, d, ks, k, _, rfl, hm.mono hide_ex, KeyV.mono hide_ex _ _ h2, h3, hv, ?_⟩
          exact q m H κ zs hS hK hok (Nat.le_add_right _ _) (fun z hz => .inl hz) But.refl
    | of x ts =>
      cases ht with
      | @of a b _ _ vs h1 h2 h3 h4 =>
        have lv := tmVs_len h3
        have g1 := Evl.ex_t hide_ex h1
        have g2 := Evl.ex_t hide_ex h2
        obtain ⟨dd', rfl⟩ : ∃ e, dd = e + 1 := by
          cases dd with
          | zero =>
            unfold TmIn at hin
            exact hin.elim
          | succ e => exact ⟨e, rfl⟩
        unfold TmIn at hin
        obtain ⟨hin1, hin2⟩ := hin
        have epr : (Tm.of x ts).pre.length = (Tm.pres ts).length + 1 := rfl
        refine ⟨_, rfl, a, _, 0, _, rfl, rfl, g1, rfl, rfl, _, rfl, ite2 (fun z => ?_) (fun _ => ?_)⟩
        · exact absurd z (by decide +kernel)
        refine ⟨_, rfl, a, _, 2, _, rfl, rfl, g1, rfl, b, rfl, ⟨_, g2⟩, fun D nD => ?_⟩
        have dts : Tm.deeps ts < n := by
          unfold Tm.deep at hd
          omega
        have DS : D ∉ [p, c] := hS.kn.off nD
        have hd0 : ∃ o, H d = some o := by
          rcases hm.obj with g | ⟨od, g⟩
          · exact ⟨_, hide_ex _ _ g⟩
          · exact ⟨_, hide_ex _ _ g⟩
        refine lc_tup (K := K) (a := b) (xs := vs) (fun j H' => ∃ (xs : List Nat) (κ' : Kn) (zs' : List Addr), H' D = some (.lst (vN xs)) ∧ xs.length = j ∧ Src H' p c ∧ KnO K w [p, c] H' kd κ' zs' ∧ KOk qs κ' ∧ sz κ' ≤ sz κ + (Tm.pres (ts.take j)).length ∧ (∀ z ∈ zs', z ∈ zs ∨ H z = none) ∧ Fr4 p c kd zs H H')
          ⟨[], κ, zs, upd_same, rfl, hS.ex (Ex.new nD), hK.but (But.of (Ex.new nD)), hok, Nat.le_add_right _ _, fun z hz => .inl hz, But.of (Ex.new nD)⟩ (fun i H' _ h => by
            obtain ⟨_, _, _, _, _, _, _, _, _, _, f⟩ := h
            exact Evl.ex_t hide_ex (fr_t hK f h2)) ?_ ?_
        · rintro j v H3 hj ⟨xs, κ3, zs3, hD, lx, S3, K3, ok3, sz3, n3, f3⟩
          obtain ⟨t, htj, htv⟩ := tmVs_take h3 hj
          have lj := (List.getElem?_eq_some_iff.mp hj).1
          have tk := pres_take htj
          have tl := pres_le ts (j + 1)
          have dn3 : d ∉ kd :: zs3 := fun z => by
            rcases List.mem_cons.mp z with e | z
            · exact dn (by rw [e]; exact List.mem_cons_self)
            · rcases n3 d z with y | y
              · exact dn (List.mem_cons_of_mem _ y)
              · obtain ⟨o, ho⟩ := hd0
                rw [ho] at y
                cases y
          have DZ : ∀ z ∈ kd :: zs3, z ≠ D := fun z hz e => by
            obtain ⟨_, mi, ho⟩ := K3.own z hz
            rw [e, hD] at ho
            cases ho
          refine ⟨rfl, _, rfl, _, rfl, _, rfl, _, rfl, p, c, kd, d, v, t, ks, κ3, zs3, ρ, qs, kk, dd', rfl, S3, K3, TmV.to (fun g => fr_t hK f3 g) _ _ htv, fr_mx hK f3 hm dn, dn3, hen, (fun k hk => hvar k (List.mem_cons_of_mem _ (pres_of (List.mem_of_getElem? htj) hk))), tmsIn_get hin2 htj, by have := deep_le htj; omega, ok3, hq, by omega, fun x4 H4 κ4 zs4 S4 K4 ok4 sz4 n4 f4 => ?_⟩
          have hD4 : H4 D = some (.lst (vN xs)) := f4.get (fun z => by
            simp only [List.mem_cons] at z
            rcases z with e | e | e | e
            · exact DS (by rw [e]; simp)
            · exact DS (by rw [e]; simp)
            · exact DZ kd List.mem_cons_self e.symm
            · exact DZ D (List.mem_cons_of_mem _ e) rfl) hD
          refine ⟨_, hD4, small1000 (by unfold vN; rw [List.length_map]; omega), xs ++ [x4], κ4, zs4, by rw [upd_same, vN_snoc], by rw [List.length_append, lx]; rfl, S4.off DS, K4.keep (fun g => sqt_off hD4 g) (fun z hz => ?_), ok4, by omega, fun z hz => ?_, (fr_trans f3 n3 f4).mut nD⟩
          · refine upd_ne fun e => ?_
            obtain ⟨_, mi, ho⟩ := K4.own z hz
            rw [e, hD4] at ho
            cases ho
          · rcases n4 z hz with y | y
            · exact n3 z y
            · exact fr_none S3 K3 f3 y
        · rintro H3 ⟨xs, κ3, zs3, hD, lx, S3, K3, ok3, sz3, n3, f3⟩
          rw [lv, List.take_length] at sz3
          refine ⟨D, _, rfl, .inl ⟨SqL.of hD, fun t1 n1 => ?_⟩⟩
          have e4 : Ex H3 (upd H3 t1 (.tup (vN xs))) := Ex.new n1
          have K4 := K3.but (But.of e4)
          have S4 := S3.ex e4
          have f4 : Fr4 p c kd zs H (upd H3 t1 (.tup (vN xs))) := fr_trans f3 n3 (But.of e4)
          have kt : SqT K (hide [p, c] (upd H3 t1 (.tup (vN xs)))) t1 (vN xs) := SqT.of (hide_new S3.kn n1)
          have g14 := Evl.ex_t hide_ex (fr_t hK f4 h1)
          generalize upd H3 t1 (.tup (vN xs)) = H4 at e4 K4 S4 f4 kt g14 ⊢
          obtain ⟨⟨mv, k1, k2, k3⟩, koff, knd⟩ := id K4
          refine ⟨_, rfl, kd, mv, rfl, k2.mono hide_ex, _, rfl, a, _, 1, _, rfl, rfl, g14, rfl, fun D2 nD2 sD2 => ⟨mv, .text x, (k2.mono hide_ex).mono (Ex.new nD2), .text x, (by simp [NestedKey.depth]), ?_⟩⟩
          have e5 : Ex H4 (upd H4 D2 (mxo D2 w [])) := Ex.new nD2
          have key : ∃ Dt rows mi, (vM mv (.text x)).getD (V.ref D2) = .ref Dt ∧ TabD K w [p, c] (upd H4 D2 (mxo D2 w [])) kd x κ3 zs3 Dt rows mi mv ∧ (Dt ∈ zs3 ∨ H4 Dt = none) := by
            rcases knl_find (y := x) k3 with ⟨c1, c2⟩ | ⟨m1, m2, κ1, κ2, z1, z2, rows, z, mi, c1, c2, c3, c4, c5, c6, c7, c8, c9⟩
            · refine ⟨D2, [], [], by rw [c1]; rfl, ⟨upd_same, ?_, .nil, S4.kn.off nD2, e5 _ _ k1, k2.mono (But.of e5), koff, knd, .inr ⟨fun y => ?_, c2, rfl, knl_ex (But.of e5) k3⟩⟩, .inr nD2⟩
              · rw [hide_upd (S4.kn.off nD2)]
                exact Mx.new sD2
              · obtain ⟨_, mi, ho⟩ := K4.own D2 y
                rw [nD2] at ho
                cases ho
            · have zS : z ∉ [p, c] := (K4.own z (List.mem_cons_of_mem _ (by rw [c3]; simp))).1
              have c7' := c7
              rw [hide_off zS] at c7'
              exact ⟨z, rows, mi, by rw [c4]; rfl, ⟨e5 _ _ c7', c8.mono (But.of e5), c9, zS, e5 _ _ k1, k2.mono (But.of e5), koff, knd, .inl ⟨m1, m2, κ1, κ2, z1, z2, c1, c2, c3, knl_ex (But.of e5) c5, knl_ex (But.of e5) c6⟩⟩, .inl (by rw [c3]; simp)⟩
          obtain ⟨Dt, rows, mi, ev, T, hDt⟩ := key
          rw [ev]
          have K5 := K4.but (But.of e5)
          have S5 := S4.ex e5
          have f5 : Fr4 p c kd zs H (upd H4 D2 (mxo D2 w [])) := fr_trans f4 n3 (But.of e5)
          have kt5 := Evl.ex_t (But.of e5) kt
          have g15 := Evl.ex_t e5 g14
          generalize upd H4 D2 (mxo D2 w []) = H5 at e5 T K5 S5 f5 kt5 g15 ⊢
          have hDt' : Dt ∈ zs ∨ H Dt = none := by
            rcases hDt with y | y
            · exact n3 Dt y
            · exact fr_none S4 K4 f4 y
          have lmv : mv.length < 1000 := by
            have := Paired.length (knl_r k3)
            have := kok_len ok3.1
            omega
          have lmi : mi.length < 1000 := by
            have e1 : mi.length = rows.length := Paired.length T.rs
            rcases T.alt with ⟨_, _, κ1, κ2, _, _, _, h2, _⟩ | ⟨_, _, h3, _⟩
            · have e2 : rows.length ≤ sz κ3 := rows_sz (κ := κ3) (x := (x, rows)) (by rw [h2]; simp)
              omega
            · rw [e1, h3]
              show 0 < 1000
              omega
          have ret : ∀ (Dn : Ends) (y6 : Option V) (H' : Hp) (κ' : Kn) (zs' : List Addr) (rows' : List Rw) (mi' mv' : List Mv), Dn.rt = Q → TabD K w [p, c] H' kd x κ' zs' Dt rows' mi' mv' → Src H' p c → KnO K w [p, c] H' kd κ' zs' → KOk qs κ' → sz κ' ≤ sz κ + (Tm.of x ts).pre.length →
              (∀ z ∈ zs', z ∈ zs ∨ H z = none) → Fr4 p c kd zs H H' → SqT K (hide [p, c] H') t1 (vN xs) → tRet (tMGet2 K w (tVar 5) (tVar 4) (tC (.int 0))) Dn [some (.ref p), some (.ref kd), some (.ref a), some (.ref d), some (.ref t1), some (.ref Dt), y6] H' := by
            intro Dn y6 H' κ' zs' rows' mi' mv' hDn T' S' K' ok' sz' n' f' kt'
            refine ⟨_, rfl, Dt, mi', rfl, T'.mx.mono hide_ex, _, rfl, mi', keyN xs, T'.mx.mono hide_ex, keyN_v (Evl.ex_t hide_ex kt'), keyN_depth _, ?_⟩
            rw [rows_look T'.rs, hDn]
            exact q _ H' κ' zs' S' K' ok' sz' n' f'
          show tSeq _ _ _ [some (.ref p), some (.ref kd), some (.ref a), some (.ref d), some (.ref t1), some (.ref Dt), none] H5
          have stay : ∀ {H6 : Hp}, But [p, c] H5 H6 → Fr4 p c kd zs H H6 := fun b => fr_trans f5 n3 (fr_of b)
          refine ⟨_, rfl, _, rfl, Dt, mi, keyN xs, rfl, T.mx.mono hide_ex, keyN_v (Evl.ex_t hide_ex kt5), keyN_depth _, _, rfl, ite2 (fun z => ?_) (fun _ => ?_)⟩
          · have hns : xs ∉ rows.map (·.1) := fun y => by
              rw [vM_some.mpr (rs_in T.rs y)] at z
              cases z
            refine ⟨_, rfl, p, c, 5, rfl, S5, (by decide), (by decide), fun r H6 r0 r5 S6 b6 => ⟨_, _, rfl, rfl, _, rfl, ite2 (fun _ => ?_) (fun _ => ?_)⟩⟩
            · refine ⟨_, rfl, _, _, rfl, rfl, (by unfold CPow; decide), (by show (7 : Nat) ≤ sizeLine; decide), fun r2 nr2 => ?_⟩
              have e7 : Ex H6 (upd H6 r2 (.lst [V.int 0, V.int 1, V.int 2, V.int 3, V.int 4, V.int 5, V.int (10 ^ 20)])) := Ex.new nr2
              refine ⟨p, c, r2, _, rfl, S6.ex e7, SqL.of (hide_new S6.kn nr2), (by show 1 ≤ 7; omega), (by show 7 ≤ 1000; omega), fun jj v' H8 hv S8 b8 => ?_⟩
              obtain ⟨nv, rfl⟩ := menu_nat hv
              have b58 := (b6.trans (But.of e7)).trans b8
              have T8 := T.but b58
              have kt8 := Evl.ex_t b58 kt5
              obtain ⟨k1', km', t01, κ', zs', mi', mv', T9, K9, gr, t02, fr9⟩ := grow_put (v := nv) T8 kt8 hns lmi lmv
              have g18 : SqT K H8 a [.str "of", .str x, .ref b] := Evl.ex_t hide_ex (fr_t hK (stay b58) h1)
              refine ⟨_, rfl, _, rfl, Dt, mi, keyN xs, rfl, T8.mx.mono hide_ex, T8.own, keyN_v (Evl.ex_t hide_ex kt8), keyN_depth _, lmi, ?_⟩
              refine ⟨_, rfl, _, rfl, _, rfl, a, _, 1, _, rfl, rfl, Evl.ex_t hide_ex (t01 (fr_t hK (stay b58) h1)), rfl, kd, mv, .text x, rfl, km'.mono hide_ex, k1', .text _, (by simp [NestedKey.depth]), lmv, ?_⟩
              obtain ⟨ok', sz'⟩ := grew_ok gr ok3 hq (by rw [lx, lv]; exact hin1) hns
              have nz' : ∀ z ∈ zs', z ∈ zs ∨ H z = none := fun z hz => by
                rcases gr with ⟨_, _, _, _, e⟩ | ⟨_, _, _, e⟩
                · rw [e] at hz
                  exact n3 z hz
                · rw [e] at hz
                  rcases List.mem_append.mp hz with y | y
                  · exact n3 z y
                  · rw [List.mem_singleton.mp y]
                    exact hDt'
              have S9 : Src _ p c := (S8.off (q := Dt) (o := mxo Dt w (pM mi (keyN xs) (.ref t1) (.int (nv : Int)))) T8.off).off (q := kd) (o := mxo kd w (pM mv (.text x) (.str x) (.ref Dt))) T8.koff
              refine ret _ _ _ κ' zs' _ mi' mv' rfl T9 S9 K9 ok' (by omega) nz' ?_ (t02 kt8)
              refine But.by fun y o ny hy => ?_
              have h8 := (stay b58).get ny hy
              simp only [List.mem_cons, not_or] at ny
              rw [fr9 y (fun e => ?_) ny.2.2.1]
              · exact h8
              · rcases hDt' with z | z
                · exact ny.2.2.2 (by rw [e]; exact z)
                · rw [← e, hy] at z
                  cases z
            · dsimp only [tNext]
              exact ret _ _ _ κ3 zs3 rows mi mv rfl (T.but b6) S6 (K5.but b6) ok3 (by omega) n3 (stay b6) (Evl.ex_t b6 kt5)
          · dsimp only [tNext]
            exact ret _ _ _ κ3 zs3 rows mi mv rfl T S5 K5 ok3 (by omega) n3 f5 kt5
end
end L2.Vf.K14
/-! A ring. -/
namespace L2.Vf.K14
open PySem PySem.Spec PyProof.Rows
open Evl (Ex Ev EvT EvL EvA)
open LamX
abbrev s__law_ring_right : Stmt := top 31
theorem rLook_none : ∀ {rows : List Rw} {ns : List Nat}, ns ∉ rows.map (·.1) → rLook rows ns = 0
  | [], _, _ => rfl
  | r :: rows, ns, h => by
    rw [List.map_cons, List.mem_cons, not_or] at h
    unfold rLook
    rw [List.find?_cons, decide_eq_false (fun e => h.1 e.symm)]
    exact rLook_none h.2
theorem rLook_pos : ∀ {rows : List Rw} {ns : List Nat}, (rows.map (·.1)).Nodup → rLook (posR rows) ns = rLook rows ns
  | [], _, _ => rfl
  | r :: rows, ns, h => by
    rw [List.map_cons, List.nodup_cons] at h
    have ih := rLook_pos (ns := ns) h.2
    by_cases e : r.1 = ns
    · have n1 : rLook rows ns = 0 := rLook_none (by rw [← e]; exact h.1)
      have l : rLook (r :: rows) ns = r.2 := by
        unfold rLook
        rw [List.find?_cons, decide_eq_true e]
      rw [l]
      by_cases z : 0 < r.2
      · unfold posR
        rw [List.filter_cons_of_pos (by simpa using z)]
        unfold rLook
        rw [List.find?_cons, decide_eq_true e]
      · have e2 : posR (r :: rows) = posR rows := by
          unfold posR
          rw [List.filter_cons_of_neg (by simpa using z)]
        rw [e2, ih, n1]
        omega
    · have l : rLook (r :: rows) ns = rLook rows ns := by
        unfold rLook
        rw [List.find?_cons, decide_eq_false e]
      rw [l, ← ih]
      by_cases z : 0 < r.2
      · unfold posR
        rw [List.filter_cons_of_pos (by simpa using z)]
        unfold rLook
        rw [List.find?_cons, decide_eq_false e]
      · unfold posR
        rw [List.filter_cons_of_neg (by simpa using z)]
theorem kLook_none : ∀ {κ : Kn} {y : Str} {ns : List Nat}, y ∉ κ.map (·.1) → kLook κ y ns = 0
  | [], _, _, _ => rfl
  | x :: κ, y, ns, h => by
    rw [List.map_cons, List.mem_cons, not_or] at h
    unfold kLook
    rw [List.find?_cons, decide_eq_false (fun e => h.1 e.symm)]
    exact kLook_none h.2
theorem fil_cons (x : Str × List Rw) (κ : Kn) : fil (x :: κ) = if (posR x.2).isEmpty = true then fil κ else (x.1, posR x.2) :: fil κ := by
  unfold fil
  rw [List.map_cons]
  by_cases h : (posR x.2).isEmpty = true
  · rw [List.filter_cons_of_neg (by simpa using h), if_pos h]
  · rw [List.filter_cons_of_pos (by simpa using h), if_neg h]
theorem fil_names : ∀ {κ : Kn} {y : Str}, y ∉ κ.map (·.1) → y ∉ (fil κ).map (·.1)
  | [], _, _ => by simp [fil]
  | x :: κ, y, h => by
    rw [List.map_cons, List.mem_cons, not_or] at h
    rw [fil_cons]
    split
    · exact fil_names h.2
    · rw [List.map_cons, List.mem_cons, not_or]
      exact ⟨h.1, fil_names h.2⟩
theorem kLook_fil : ∀ {κ : Kn} {y : Str} {ns : List Nat}, (κ.map (·.1)).Nodup → (∀ x ∈ κ, (x.2.map (·.1)).Nodup) → kLook (fil κ) y ns = kLook κ y ns
  | [], _, _, _, _ => rfl
  | x :: κ, y, ns, h, hr => by
    rw [List.map_cons, List.nodup_cons] at h
    have ih := kLook_fil (y := y) (ns := ns) h.2 fun x hx => hr x (List.mem_cons_of_mem _ hx)
    have hx := rLook_pos (ns := ns) (hr x List.mem_cons_self)
    rw [fil_cons]
    by_cases e : x.1 = y
    · have l : kLook (x :: κ) y ns = rLook x.2 ns := by
        unfold kLook
        rw [List.find?_cons, decide_eq_true e]
      rw [l]
      split
      · rename_i z
        rw [kLook_none (fil_names (by rw [← e]; exact h.1)), ← hx]
        rw [List.isEmpty_iff.mp z]
        rfl
      · unfold kLook
        rw [List.find?_cons, decide_eq_true e]
        exact hx
    · have l : kLook (x :: κ) y ns = kLook κ y ns := by
        unfold kLook
        rw [List.find?_cons, decide_eq_false e]
      rw [l, ← ih]
      split
      · rfl
      · unfold kLook
        rw [List.find?_cons, decide_eq_false e]
mutual
theorem vl_fil {κ : Kn} {ρ : NestedKey → Option Nat} (h1 : (κ.map (·.1)).Nodup) (h2 : ∀ x ∈ κ, (x.2.map (·.1)).Nodup) : ∀ t : Tm, t.vl (fil κ) ρ = t.vl κ ρ
  | .var k => rfl
  | .of x ts => by
    unfold Tm.vl
    rw [vls_fil h1 h2 ts, kLook_fil h1 h2]
theorem vls_fil {κ : Kn} {ρ : NestedKey → Option Nat} (h1 : (κ.map (·.1)).Nodup) (h2 : ∀ x ∈ κ, (x.2.map (·.1)).Nodup) : ∀ ts : List Tm, Tm.vls (fil κ) ρ ts = Tm.vls κ ρ ts
  | [] => rfl
  | t :: ts => by
    unfold Tm.vls
    rw [vl_fil h1 h2 t, vls_fil h1 h2 ts]
end
/-- around the ring -/
def ringT : Nat → Tm
  | 0 => .var (.text "from")
  | n + 1 => .of "turn" [ringT n]
def ringR (m : Nat) : List Rw := (List.range m).map fun k => ([k], (k + 1) % m)
theorem ringR_look : ∀ {m : Nat} {k : Nat}, k < m → rLook (ringR m) [k] = (k + 1) % m := by
  intro m k hk
  have go : ∀ (l : List Nat), k ∈ l → rLook (l.map fun k => (([k], (k + 1) % m) : Rw)) [k] = (k + 1) % m := by
    intro l
    induction l with
    | nil => intro h; cases h
    | cons a l ih =>
      intro h
      rw [List.map_cons]
      by_cases e : a = k
      · subst e
        unfold rLook
        rw [List.find?_cons, decide_eq_true rfl]
      · have : rLook ((([a], (a + 1) % m) : Rw) :: l.map fun k => (([k], (k + 1) % m) : Rw)) [k] = rLook (l.map fun k => (([k], (k + 1) % m) : Rw)) [k] := by
          unfold rLook
          rw [List.find?_cons, decide_eq_false (fun z => e (by injection z))]
        rw [this]
        rcases List.mem_cons.mp h with z | z
        · exact absurd z.symm e
        · exact ih z
  exact go _ (List.mem_range.mpr hk)
theorem ringR_one (m : Nat) : ((ringR m).map (·.1)).Nodup := by
  unfold ringR
  rw [List.map_map]
  refine List.Pairwise.map (R := (· ≠ ·)) _ (fun a b h e => h ?_) List.nodup_range
  injection e
theorem ring_vl {m at_ : Nat} {ρ : NestedKey → Option Nat} (hm : at_ < m) (h : ρ (.text "from") = some at_) : ∀ n, (ringT n).vl [("turn", ringR m)] ρ = (at_ + n) % m
  | 0 => by
    show (ρ (.text "from")).getD 0 = _
    rw [h]
    show at_ = _
    rw [Nat.add_zero, Nat.mod_eq_of_lt hm]
  | n + 1 => by
    show kLook [("turn", ringR m)] "turn" [(ringT n).vl [("turn", ringR m)] ρ] = _
    rw [ring_vl hm h n]
    have l : kLook [("turn", ringR m)] "turn" [(at_ + n) % m] = rLook (ringR m) [(at_ + n) % m] := by
      unfold kLook
      rw [List.find?_cons, decide_eq_true rfl]
    rw [l, ringR_look (Nat.mod_lt _ (by omega)), Nat.mod_add_mod, Nat.add_assoc]
theorem ring_pre : ∀ n, (ringT n).pre.length = n + 1
  | 0 => rfl
  | n + 1 => by
    show (Tm.of "turn" [ringT n] :: ((ringT n).pre ++ [])).length = _
    rw [List.append_nil, List.length_cons, ring_pre n]
theorem ring_var : ∀ n k, Tm.var k ∈ (ringT n).pre → k = .text "from"
  | 0, k, h => by
    have z : Tm.var k ∈ [Tm.var (.text "from")] := h
    have z := List.mem_singleton.mp z
    injection z
  | n + 1, k, h => by
    have z : Tm.var k ∈ Tm.of "turn" [ringT n] :: ((ringT n).pre ++ []) := h
    rw [List.append_nil] at z
    rcases List.mem_cons.mp z with e | z
    · cases e
    · exact ring_var n k z
end L2.Vf.K14
/-! The ring's check. -/
namespace L2.Vf.K14
open PySem PySem.Spec PyProof.Rows
open Evl (Ex Ev EvT EvL EvA)
open LamX
theorem RowV.to {K : PySem.W.Frag} {H H' : Hp} {v : V} {r : Rw} (e : ∀ {a : Addr} {xs : List V}, SqT K H a xs → SqT K H' a xs) (h : RowV K H v r) : RowV K H' v r := by
  obtain ⟨p, b, h1, h2, h3⟩ := h
  exact ⟨p, b, h1, e h2, e h3⟩
theorem modc (j a1 : Nat) : ((0 + (j : Int) + 1) % (2 + (a1 : Int))) = (((j + 1) % (2 + a1) : Nat) : Int) := by
  have e1 : (0 + (j : Int) + 1) = ((j + 1 : Nat) : Int) := by omega
  have e2 : (2 + (a1 : Int)) = ((2 + a1 : Nat) : Int) := by omega
  rw [e1, e2, Int.natCast_emod]
theorem mod2 (x y a1 : Nat) : (((x : Int) + (y : Int)) % (2 + (a1 : Int))) = (((x + y) % (2 + a1) : Nat) : Int) := by
  have e1 : ((x : Int) + (y : Int)) = ((x + y : Nat) : Int) := by omega
  have e2 : (2 + (a1 : Int)) = ((2 + a1 : Nat) : Int) := by omega
  rw [e1, e2, Int.natCast_emod]
theorem turn_word : WordOk 12 "turn" := ⟨by decide +kernel, by decide +kernel, by decide +kernel⟩
theorem ring_tab {m : Nat} (h : m ≤ 20) : TabOk (ringR m) := ⟨ringR_one m, by unfold ringR; rw [List.length_map, List.length_range]; omega, 1, by omega, fun r hr => by
  unfold ringR at hr
  obtain ⟨k, _, e⟩ := List.mem_map.mp hr
  rw [← e]
  rfl⟩
def rhoF (n : Nat) : NestedKey → Option Nat := fun k => if k = .text "from" then some n else none
theorem en_from (n : Nat) : EnR [(.text "from", .str "from", .int (n : Int))] (rhoF n) := fun k => by
  unfold vM rhoF
  rw [List.find?_cons]
  by_cases e : k = .text "from"
  · rw [if_pos e, e, decide_eq_true rfl]
    rfl
  · rw [if_neg e, decide_eq_false (fun z => e z.symm)]
    rfl
def spRing (T : List (Addr × Str)) : Sp := fun vs H Q _ => ∃ (p c : Addr), vs = [.ref p] ∧ Src H p c ∧ Tabs T H ∧ ∀ H', Q (.bl true) H'
/-- the class can be made -/
def HasM (P : Program) (w : World) (K : PySem.W.Frag) (mg : Str → Option Value) (base : Heap) (C : Addr) : Prop :=
  ∃ fI fdI, Mk K C fI ∧ FnOk P w K mg base CX0 4 fI fdI ["self", "tables"] (spMInit K w C) ∧ mg "Meaning" = some (.ref C) ∧ Binds K fdI ["self", "tables"] []
section
variable {P : Program} {w : World} {K : PySem.W.Frag} {mg : Str → Option Value} {base : Heap} {f C : Addr} {fd : FuncData} {T : List (Addr × Str)}
abbrev n__law_ring_right : List Str := ["_law_source_here", "_law_many", "_law_laps", "_law_rows", "_law_term_here", "_law_at", "_law_lap", "_law_k"]
theorem sc__law_ring_right : FnScope n__law_ring_right ["_law_source_here"] (defScope s__law_ring_right) := ⟨rfl, rfl, rfl, by decide +kernel, rfl, by decide +kernel, by decide +kernel⟩
theorem ok_ring (F : Fun K "_law_ring_right" "_law_ring_right" s__law_ring_right f fd) (m_range : mg "range" = none) (m_int : mg "int" = none)
    (hp : Has P w K mg base 1 "_law_pick" ["_law_source_here", "_law_many"] spPick) (hM : HasM P w K mg base C) (hv : Has P w K mg base 4 "value_of" ["meaning", "term", "values"] (spValueOf K w C T)) :
    FnOk P w K mg base CX0 6 f fd ["_law_source_here"] (spRing T) := by
  obtain ⟨f1, fd1, G__law_pick, m__law_pick, k__law_pick, b__law_pick⟩ := hp
  obtain ⟨f2, fd2, M_Meaning, G_Meaning, m_Meaning, b_Meaning⟩ := hM
  obtain ⟨f3, fd3, G_value_of, m_value_of, k_value_of, b_value_of⟩ := hv
  refine F.ok (k := 5) sc__law_ring_right (fun vs H Q E h => ?_) (fun cdv A outer s H vs Q E hr h => ?_)
  · obtain ⟨p, c, rfl, _⟩ := h
    rfl
  obtain ⟨p, c, rfl, hS, hT, q⟩ := h
  refine ⟨_, (pss_cons (ps_asg (pe_tup (pa_cons (pe_op op_add pe_int (pe_call G__law_pick (hr.mono (by omega)) (by rfl) m__law_pick k__law_pick b__law_pick .nil pass0 (pa_cons (pv 0) (pa_cons pe_int pa_nil)))) (pa_cons (pe_call G__law_pick (hr.mono (by omega)) (by rfl) m__law_pick k__law_pick b__law_pick .nil pass0 (pa_cons (pv 0) (pa_cons pe_int pa_nil))) pa_nil))) (pg_tup rfl (pgs_cons (pg_name (i := 1) sc__law_ring_right.nd rfl (.inr rfl)) (pgs_cons (pg_name (i := 2) sc__law_ring_right.nd rfl (.inl rfl)) pgs_nil))))
  (pss_cons (ps_setLc (i := 3) (own := [("_law_k", 7)]) (g := gName 7) (tt := _) rfl sc__law_ring_right.nd rfl rfl (sw_true rfl rfl rfl (by decide +kernel)) (pi_range1 rfl m_range (pa_cons (pv 1) pa_nil)) (blkOk_by (N := n__law_ring_right) (sc := defScope s__law_ring_right) (by decide +kernel)) (fun _ _ _ _ _ => (pg_name (i := 7) sc__law_ring_right.nd rfl (.inl rfl))) (fun _ _ _ _ _ => pts_nil) (fun _ _ _ _ _ => (pe_tup (pa_cons (pe_tup (pa_cons (pv 7) pa_nil)) (pa_cons (pe_op op_mod (pe_callTy call_int1 (by rfl) m_int (by decide +kernel) (pa_cons (pe_op op_add (pv 7) pe_int) pa_nil)) (pv 1)) pa_nil)))))
  (pss_cons (ps_par (i := 4) (j := 5) (by rfl) sc__law_ring_right.nd rfl rfl (by decide) rfl rfl (pa_cons (pe_tup (pa_cons pe_str (pa_cons pe_str pa_nil))) (pa_cons (pe_call G__law_pick (hr.mono (by omega)) (by rfl) m__law_pick k__law_pick b__law_pick .nil pass0 (pa_cons (pv 0) (pa_cons (pv 1) pa_nil))) pa_nil)) (by rfl))
  (pss_cons (ps_for PassesOwn.never rfl (pi_range1 rfl m_range (pa_cons (pv 2) pa_nil)) (pg_name (i := 6) sc__law_ring_right.nd rfl (.inl rfl))
  (pss_one (ps_set (i := 4) sc__law_ring_right.nd rfl (.inl rfl) (pe_tup (pa_cons pe_str (pa_cons pe_str (pa_cons (pe_tup (pa_cons (pv 4) pa_nil)) pa_nil)))))))
  (pss_one (ps_ret (pe_cmpR op_eq (pe_call G_value_of (hr.mono (by omega)) (by rfl) m_value_of k_value_of b_value_of .nil pass0 (pa_cons (pe_make M_Meaning G_Meaning (hr.mono (by omega)) (by rfl) m_Meaning b_Meaning .nil pass0 (pa_cons (pe_mdisp (K := K) (w := w) (units40 hr) (pps_cons pe_str (pv 3) pps_nil) rfl rfl (fun z => by cases z) (by decide)) pa_nil)) (pa_cons (pv 4) (pa_cons (pe_mdisp (K := K) (w := w) (units40 hr) (pps_cons pe_str (pv 5) pps_nil) rfl rfl (fun z => by cases z) (by decide)) pa_nil)))) (pe_op op_mod (pe_callTy call_int1 (by rfl) m_int (by decide +kernel) (pa_cons (pe_op op_add (pv 5) (pv 2)) pa_nil)) (pv 1)) (nomark _)))))))), ?_⟩
  refine ⟨_, rfl, p, c, 9, rfl, hS, (by decide), (by decide), fun a1 H1 a10 a19 S1 b1 => ⟨_, _, rfl, rfl, _, rfl, p, c, 60, rfl, S1, (by decide), (by decide), fun a2 H2 a20 a260 S2 b2 => ?_⟩⟩
  obtain ⟨a1, rfl⟩ := Int.eq_ofNat_of_zero_le a10
  obtain ⟨a2, rfl⟩ := Int.eq_ofNat_of_zero_le a20
  have T2 : Tabs T H2 := S1.tabs b2 (hS.tabs b1 hT)
  refine ⟨(by show (2 : Nat) ≤ sizeLine; decide), fun t1 n1 => ⟨t1, _, rfl, SqT.of upd_same, rfl, _, _, rfl, _, _, rfl, rfl, ?_⟩⟩
  have S3 := S2.ex (Ex.new (o := HO.tup [V.int (2 + (a1 : Int)), V.int (a2 : Int)]) n1)
  have T3 : Tabs T (upd H2 t1 (.tup [V.int (2 + (a1 : Int)), V.int (a2 : Int)])) := Tabs.ext T2 (Ex.new n1)
  generalize upd H2 t1 (.tup [V.int (2 + (a1 : Int)), V.int (a2 : Int)]) = H3 at S3 T3 ⊢
  refine ⟨_, rfl, _, rfl, (by omega), (by omega), fun D nD => lc_range (lo := 0) (n := (2 + (a1 : Int)).toNat) (fun j H' => ∃ xs, H' D = some (.lst xs) ∧ Paired (RowV K (hide [p, c] H')) xs ((List.range j).map fun k => (([k], (k + 1) % (2 + a1)) : Rw)) ∧ Ex H3 H') ⟨[], upd_same, .nil, Ex.new nD⟩ ?_ ?_⟩
  · rintro j H4 hj ⟨xs, hD, hx, e4⟩
    refine ⟨rfl, ?_⟩
    refine ⟨_, rfl, (by show (1 : Nat) ≤ sizeLine; decide), fun b nb => ⟨_, rfl, _, _, rfl, rfl, .inl ⟨_, rfl, ⟨_, rfl, _, _, rfl, rfl, (by omega), ⟨(by show (2 : Nat) ≤ sizeLine; decide), fun p' np => ?_⟩⟩⟩⟩⟩
    have e5 := (Ex.new (o := HO.tup [V.int (0 + (j : Int))]) nb).trans (Ex.new (o := HO.tup [V.ref b, V.int ((0 + (j : Int) + 1) % (2 + (a1 : Int)))]) np)
    have lx := Paired.length hx
    rw [List.length_map, List.length_range] at lx
    have hD5 := e5 _ _ hD
    refine ⟨xs, hD5, small1000 (by omega), xs ++ [.ref p'], upd_same, ?_, (e4.trans e5).mut nD⟩
    have S4 := S3.ex e4
    have hb : SqT K (hide [p, c] (upd H4 b (.tup [V.int (0 + (j : Int))]))) b [V.int (0 + (j : Int))] := SqT.of (hide_new S4.kn nb)
    have hp' : SqT K (hide [p, c] (upd (upd H4 b (.tup [V.int (0 + (j : Int))])) p' (.tup [V.ref b, V.int ((0 + (j : Int) + 1) % (2 + (a1 : Int)))]))) p' [V.ref b, V.int ((0 + (j : Int) + 1) % (2 + (a1 : Int)))] := SqT.of (hide_new (S4.ex (Ex.new nb)).kn np)
    have hb' := Evl.ex_t (But.of (S := [p, c]) (Ex.new (o := HO.tup [V.ref b, V.int ((0 + (j : Int) + 1) % (2 + (a1 : Int)))]) np)) hb
    rw [List.range_succ, List.map_append]
    refine pairApp (pairedTo hx fun _ _ g => RowV.to (fun g => sqt_off hD5 (Evl.ex_t (But.of e5) g)) g) (.cons ⟨p', b, rfl, ?_, ?_⟩ .nil)
    · have z := sqt_off (zs := xs ++ [.ref p']) hD5 hp'
      show SqT K _ p' [V.ref b, V.int (((j + 1) % (2 + a1) : Nat) : Int)]
      rw [← modc]
      exact z
    · have z := sqt_off (zs := xs ++ [.ref p']) hD5 hb'
      have e0 : vN [j] = [V.int (0 + (j : Int))] := by
        show [V.int (j : Int)] = _
        rw [Int.zero_add]
      show SqT K _ b (vN [j])
      rw [e0]
      exact z
  rintro H4 ⟨xs, hD, hx, e4⟩
  have S4 := S3.ex e4
  have T4 := Tabs.ext T3 e4
  have DS : D ∉ [p, c] := S3.kn.off nD
  refine ⟨(by show (2 : Nat) ≤ sizeLine; decide), fun t2 n2 => ⟨_, rfl, _, rfl, p, c, _, rfl, S4.ex (Ex.new n2), (by omega), (by omega), fun at_ H6 at0 atn S6 b6 => ⟨_, _, rfl, ?_⟩⟩⟩
  obtain ⟨at_, rfl⟩ := Int.eq_ofNat_of_zero_le at0
  have b46 : But [p, c] H4 H6 := (But.of (Ex.new n2)).trans b6
  have T6 : Tabs T H6 := S4.tabs b46 T4
  have hD6 : H6 D = some (.lst xs) := b46.get DS hD
  have hx6 : Paired (RowV K H6) xs (ringR (2 + a1)) := by
    have e : (2 + (a1 : Int)).toNat = 2 + a1 := by omega
    rw [e] at hx
    exact pairedTo hx fun _ _ g => RowV.to (fun g => Evl.ex_t hide_ex (Evl.ex_t b46 g)) g
  have ht6 : TmV K H6 (ringT 0) (.ref t2) := .var (Evl.ex_t hide_ex (Evl.ex_t b6 (SqT.of (hide_new S4.kn n2)))) (.text _) (by simp [NestedKey.depth])
  refine ⟨_, rfl, _, rfl, (by omega), (by omega), for_range (lo := 0) (n := (a2 : Int).toNat) (fun i σ H' => ∃ (y6 : Option V) (tv : V), σ = [some (.ref p), some (.int (2 + (a1 : Int))), some (.int (a2 : Int)), some (.ref D), some tv, some (.int (at_ : Int)), y6, none] ∧ TmV K H' (ringT i) tv ∧ Ex H6 H')
    ⟨none, .ref t2, rfl, ht6, Ex.refl _⟩ ?_ ?_⟩
  · rintro i σ H7 hi ⟨y6, tv, rfl, ht, e7⟩
    refine ⟨_, rfl, (by show (1 : Nat) ≤ sizeLine; decide), fun b nb => ⟨(by show (3 : Nat) ≤ sizeLine; decide), fun t nt => ?_⟩⟩
    have e8 := (Ex.new (o := HO.tup [tv]) nb).trans (Ex.new (o := HO.tup [V.str "of", V.str "turn", V.ref b]) nt)
    refine ⟨_, .ref t, rfl, ?_, e7.trans e8⟩
    exact .of (SqT.of upd_same) (Evl.ex_t (Ex.new nt) (SqT.of upd_same)) (.cons (TmV.to (fun g => Evl.ex_t e8 g) _ _ ht) .nil) (by show 1 ≤ 10; omega)
  rintro σ H7 ⟨y6, tv, rfl, ht, e7⟩
  have e2 : (a2 : Int).toNat = a2 := by omega
  rw [e2] at ht
  have T7 := Tabs.ext T6 e7
  have hD7 := e7 _ _ hD6
  have hx7 := pairedTo hx6 fun _ _ g => RowV.mono e7 g
  intro d1 nd1 sd1
  have kt : ∀ {H' : Hp} (v : V), ∀ r ∈ [((NestedKey.text "turn", V.str "turn", v) : Mv)], KeyV K H' r.1 r.2.1 ∧ r.1.depth ≤ 8 := fun v r hr => by
    rw [List.mem_singleton.mp hr]
    exact ⟨.text _, by simp [NestedKey.depth]⟩
  have kf : ∀ {H' : Hp} (v : V), ∀ r ∈ [((NestedKey.text "from", V.str "from", v) : Mv)], KeyV K H' r.1 r.2.1 ∧ r.1.depth ≤ 8 := fun v r hr => by
    rw [List.mem_singleton.mp hr]
    exact ⟨.text _, by simp [NestedKey.depth]⟩
  refine ⟨_, rfl, upd_same, [(.text "turn", .str "turn", .ref D)], rfl, (by simp), kt _, ?_⟩
  have e8 : Ex H7 (upd (upd H7 d1 (mxo d1 w [])) d1 (mxo d1 w (mergeM [] [(.text "turn", .str "turn", .ref D)]))) := (Ex.new nd1).mut nd1
  have mx8 : Mx K (upd (upd H7 d1 (mxo d1 w [])) d1 (mxo d1 w (mergeM [] [(.text "turn", .str "turn", .ref D)]))) w d1 (mergeM [] [(.text "turn", .str "turn", .ref D)]) := Mx.disp sd1 [(.text "turn", .str "turn", .ref D)] [] (Mx.new sd1) upd_same (kt _) (by simp)
  have ow8 : (upd (upd H7 d1 (mxo d1 w [])) d1 (mxo d1 w (mergeM [] [(.text "turn", .str "turn", .ref D)]))) d1 = some (mxo d1 w (mergeM [] [(.text "turn", .str "turn", .ref D)])) := upd_same
  generalize upd (upd H7 d1 (mxo d1 w [])) d1 (mxo d1 w (mergeM [] [(.text "turn", .str "turn", .ref D)])) = H8 at e8 mx8 ow8 ⊢
  have em : mergeM [] [((NestedKey.text "turn", V.str "turn", V.ref D) : Mv)] = [(.text "turn", .str "turn", .ref D)] := rfl
  rw [em] at mx8 ow8
  intro me dx nme ndx ne
  have e9 : Ex H8 (upd (upd H8 dx (.own me)) me (.ins C dx [])) := (Ex.new ndx).trans (Ex.new (by rw [upd_ne ne.symm]; exact nme))
  have D8 := e8 _ _ hD7
  refine ⟨me, dx, d1, _, [("turn", ringR (2 + a1))], rfl, upd_same, e9 _ _ ow8, mx8.mono e9, .cons ⟨rfl, rfl, turn_word, ring_tab (by omega), D, xs, rfl, SqL.of (e9 _ _ D8), pairedTo hx7 fun _ _ g => RowV.mono (e8.trans e9) g⟩ .nil, fun H10 hM keep => ⟨rfl, ?_⟩⟩
  have e10 : Ex H8 H10 := fun b o hb => keep b o (e9 _ _ hb) (ne_of_none hb nme)
  refine ⟨_, rfl, fun d2 nd2 sd2 => ⟨_, rfl, upd_same, [(.text "from", .str "from", .int (at_ : Int))], rfl, (by simp), kf _, ?_⟩⟩
  have e11 : Ex H10 (upd (upd H10 d2 (mxo d2 w [])) d2 (mxo d2 w (mergeM [] [(.text "from", .str "from", .int (at_ : Int))]))) := (Ex.new nd2).mut nd2
  have mx11 : Mx K (upd (upd H10 d2 (mxo d2 w [])) d2 (mxo d2 w (mergeM [] [(.text "from", .str "from", .int (at_ : Int))]))) w d2 (mergeM [] [(.text "from", .str "from", .int (at_ : Int))]) := Mx.disp sd2 [(.text "from", .str "from", .int (at_ : Int))] [] (Mx.new sd2) upd_same (kf _) (by simp)
  have e7b := (e8.trans e10).trans e11
  refine ⟨me, d2, tv, ringT a2, _, fil [("turn", ringR (2 + a1))], rhoF at_, rfl, MeanAt.mono e11 hM, TmV.to (fun g => Evl.ex_t e7b g) _ _ ht, (by rw [ring_pre]; omega), mx11, en_from at_, (fun k hk => ?_), Tabs.ext T7 e7b, fun H12 x12 T12 => ?_⟩
  · rw [ring_var _ _ hk]
    unfold rhoF
    rw [if_pos rfl]
    rfl
  refine ⟨_, rfl, _, rfl, _, _, rfl, rfl, .inl ⟨_, rfl, _, rfl, _, _, rfl, rfl, (by omega), rfl, ?_⟩⟩
  have rv := ring_vl (m := 2 + a1) (at_ := at_) (ρ := rhoF at_) (by omega) (by unfold rhoF; rw [if_pos rfl]) a2
  rw [vl_fil (by simp) (fun x hx => by rw [List.mem_singleton.mp hx]; exact ringR_one _), rv]
  show Q (.bl (decide (V.int (((at_ + a2) % (2 + a1) : Nat) : Int) = V.int (((at_ : Int) + (a2 : Int)) % (2 + (a1 : Int)))))) H12
  rw [mod2, decide_eq_true rfl]
  exact q H12
end
end L2.Vf.K14
/-! What the law's laps lean on; what is drawn first. -/
namespace L2.Vf.K14
open PySem PySem.Spec PyProof.Rows
open Evl (Ex Ev EvT EvL EvA)
open NdefX LamX
/-- a statement ahead of others: what it comes to, and what is made of that -/
theorem seq_to {s r : TS} {D : Ends} {σ : St} {H : Hp} (Post : St → Hp → Prop) (h1 : ∀ N : St → Hp → Prop, (∀ σ' H', Post σ' H' → N σ' H') → s { D with nx := N } σ H) (h2 : ∀ σ' H', Post σ' H' → r D σ' H') : tSeq s r D σ H := h1 (r D) h2
theorem TmV.ref {K : PySem.W.Frag} {H : Hp} {t : Tm} {v : V} (h : TmV K H t v) : ∃ a, v = .ref a := by
  cases h with
  | var => exact ⟨_, rfl⟩
  | of => exact ⟨_, rfl⟩
theorem TmV.isT {K : PySem.W.Frag} {H : Hp} {t : Tm} {v : V} (h : TmV K H t v) : ∃ a xs, v = .ref a ∧ SqT K H a xs := by
  cases h with
  | var h1 => exact ⟨_, _, rfl, h1⟩
  | of h1 => exact ⟨_, _, rfl, h1⟩
theorem okC_lt {c : Nat} (h : okC c = true) : c < 128 := by
  unfold okC at h
  simp only [Bool.or_eq_true, Bool.and_eq_true, decide_eq_true_eq] at h
  omega
theorem word_sm {n : Nat} {x : Str} (l : n ≤ 14) (h : WordOk n x) : strSm x = true := by
  obtain ⟨_, h2, h3⟩ := h
  unfold strSm asc
  rw [Bool.and_eq_true, decide_eq_true_eq, List.all_eq_true]
  exact ⟨by omega, fun c hc => decide_eq_true (okC_lt (List.all_eq_true.mp (wOk_all h3) c hc))⟩
theorem prim_names : ∀ n : Nat, n < 10 → strSm (("primitive" : Str) ++ ((toString (n : Int) : String) : Str)) = true ∧ PyData.strOk (("primitive" : Str) ++ ((toString (n : Int) : String) : Str)) = true := by decide +kernel
theorem name_sm {x : Str} (h : NameOk x) : strSm x = true ∧ PyData.strOk x = true := by
  rcases h with h | ⟨n, hn, rfl⟩
  · exact ⟨word_sm (by decide) h, word_lay h⟩
  · exact prim_names n hn
theorem num_sm : ∀ n : Nat, n < 21 → smD (.int (n : Int)) = true := by decide +kernel
theorem big_sm : smD (.int (10 ^ 20)) = true := by decide +kernel
theorem vari_sm : strSm "variable" = true := by decide +kernel
theorem var_sm {i : Nat} {k : NestedKey} (li : i ≤ 20) (h : VarOk i k) : smD k.data = true ∧ cnt k.data ≤ 5 ∧ k.depth ≤ 8 := by
  rcases h with ⟨x, y, n, hx, hy, hn, hk⟩ | ⟨j, hj, rfl⟩
  · have lx : smD (.str x) = true := by simp only [smD]; exact word_sm (by decide) hx
    have ly : smD (.str y) = true := by simp only [smD]; exact word_sm (by decide) hy
    have ln := num_sm n (by omega)
    have lb := big_sm
    unfold menuK at hk
    simp only [List.mem_cons, List.not_mem_nil, or_false] at hk
    rcases hk with rfl | rfl | rfl | rfl | rfl | rfl <;> simp only [NestedKey.data, NestedKey.datas] <;> refine ⟨?_, ?_, ?_⟩ <;> simp [smD, smAll, cnt, cntAll, NestedKey.depth, NestedKey.depthAll] <;> simp_all [smD]
  · have lj := num_sm j (by omega)
    have lv := vari_sm
    simp only [NestedKey.data, NestedKey.datas]
    refine ⟨?_, ?_, ?_⟩ <;> simp [smD, smAll, cnt, cntAll, NestedKey.depth, NestedKey.depthAll] <;> simp_all [smD]
/-- what is known of the names of a lap -/
structure Over (qs : List (Str × Nat)) (ks : List NestedKey) : Prop where
  q : ∀ q ∈ qs, q.2 ≤ 2 ∧ strSm q.1 = true ∧ PyData.strOk q.1 = true
  k : ∀ k ∈ ks, smD k.data = true ∧ cnt k.data ≤ 5 ∧ k.depth ≤ 8 ∧ k.data.canLay0 = true ∧ k.data.depth ≤ 1
section
variable {qs : List (Str × Nat)} {ks : List NestedKey} {t : Tm} {d : Nat} {tb : Tb}
theorem Over.sh (O : Over qs ks) (h : TmIn qs ks d t) (l : d ≤ 8) : SeqAt.shaped t.data = true := by
  have a := tm_lay t (lay_in (fun q hq => (O.q q hq).2.2) (fun k hk => ⟨(O.k k hk).2.2.2.1, (O.k k hk).2.2.2.2⟩) t h)
  have b := tmIn_deep t h
  show (t.data.canLay0 && decide (t.data.depth ≤ 64)) = true
  rw [a.1, Bool.true_and]
  exact decide_eq_true (by have := a.2; omega)
theorem Over.deep (O : Over qs ks) (h : TmIn qs ks d t) : t.data.depth ≤ 2 * d + 2 := by
  have a := tm_lay t (lay_in (fun q hq => (O.q q hq).2.2) (fun k hk => ⟨(O.k k hk).2.2.2.1, (O.k k hk).2.2.2.2⟩) t h)
  have b := tmIn_deep t h
  have := a.2
  omega
theorem Over.cnt (O : Over qs ks) (h : TmIn qs ks d t) : smD t.data = true ∧ Vf.cnt t.data + 4 ≤ 12 * 2 ^ d :=
  cnt_in (fun q hq => ⟨(O.q q hq).1, (O.q q hq).2.1⟩) (fun k hk => ⟨(O.k k hk).1, (O.k k hk).2.1⟩) t h
theorem Over.shown (O : Over qs ks) (h : TmIn qs ks d t) (l : d ≤ 8) : t.data.showable = true ∧ t.data.depth ≤ 150 ∧ t.data.shown.length ≤ sizeLine ∧ PyData.strOk t.data.shown = true := by
  obtain ⟨h1, h2⟩ := O.cnt h
  have h3 := shown_le _ h1
  have h4 := O.deep h
  have h5 : 2 ^ d ≤ 2 ^ 8 := Nat.pow_le_pow_right (by decide) l
  have sz : sizeLine = 16777216 := sizeLine_eq
  exact ⟨sm_showable _ h1, by omega, by omega, asc_ok (shown_asc _ h1)⟩
theorem Over.tab (O : Over qs ks) : ∀ {tb : Tb}, (∀ r ∈ tb, r.1 ∈ ks ∧ TmIn qs ks 2 r.2) → smKv (tb.map fun r => (r.1.data, r.2.data)) = true ∧ cntKv (tb.map fun r => (r.1.data, r.2.data)) ≤ 60 * tb.length ∧ PyData.depthKv (tb.map fun r => (r.1.data, r.2.data)) ≤ 6
  | [], _ => ⟨by simp only [List.map_nil, smKv], by simp only [List.map_nil, cntKv]; omega, by simp only [List.map_nil, PyData.depthKv]; omega⟩
  | r :: tb, h => by
    obtain ⟨h1, h2⟩ := h r List.mem_cons_self
    obtain ⟨i1, i2, i3⟩ := O.tab (tb := tb) fun q hq => h q (List.mem_cons_of_mem _ hq)
    obtain ⟨a1, a2⟩ := O.cnt h2
    obtain ⟨b1, b2, _, _, b5⟩ := O.k _ h1
    have a3 := O.deep h2
    refine ⟨?_, ?_, ?_⟩
    · simp only [List.map_cons, smKv, a1, b1, i1, Bool.and_self]
    · simp only [List.map_cons, cntKv, List.length_cons]
      omega
    · simp only [List.map_cons, PyData.depthKv]
      omega
theorem Over.tabShown (O : Over qs ks) (h : ∀ r ∈ tb, r.1 ∈ ks ∧ TmIn qs ks 2 r.2) (l : tb.length ≤ 100) : (tbD tb).showable = true ∧ (tbD tb).depth ≤ 150 ∧ (tbD tb).shown.length ≤ sizeLine ∧ PyData.strOk (tbD tb).shown = true := by
  obtain ⟨i1, i2, i3⟩ := O.tab h
  have s1 : smD (tbD tb) = true := by
    unfold tbD
    simp only [smD]
    exact i1
  have s2 := shown_le _ s1
  have s3 : Vf.cnt (tbD tb) = cntKv (tb.map fun r => (r.1.data, r.2.data)) + 1 := by unfold tbD; simp only [Vf.cnt]
  have s4 : (tbD tb).depth = PyData.depthKv (tb.map fun r => (r.1.data, r.2.data)) + 1 := by unfold tbD; simp only [PyData.depth]
  have sz : sizeLine = 16777216 := sizeLine_eq
  exact ⟨sm_showable _ s1, by omega, by omega, asc_ok (shown_asc _ s1)⟩
end
mutual
theorem preN_in {qs : List (Str × Nat)} {ks : List NestedKey} (hq : ∀ q ∈ qs, q.2 ≤ 2) : ∀ (t : Tm) {d : Nat}, TmIn qs ks d t → t.pre.length + 1 ≤ 2 * 2 ^ d
  | .var k, d, _ => by
    show 1 + 1 ≤ 2 * 2 ^ d
    have : 1 ≤ 2 ^ d := Nat.one_le_two_pow
    omega
  | .of x ts, 0, h => by
    unfold TmIn at h
    exact h.elim
  | .of x ts, d + 1, h => by
    unfold TmIn at h
    have l : ts.length ≤ 2 := hq _ h.1
    have z := presN_in hq ts h.2
    have p : 1 ≤ 2 ^ d := Nat.one_le_two_pow
    have e : 2 ^ (d + 1) = 2 ^ d + 2 ^ d := by rw [Nat.pow_succ]; omega
    show (Tm.of x ts :: Tm.pres ts).length + 1 ≤ 2 * 2 ^ (d + 1)
    rw [List.length_cons, e]
    have : ts.length = 0 ∨ ts.length = 1 ∨ ts.length = 2 := by omega
    rcases this with y | y | y <;> rw [y] at z <;> omega
theorem presN_in {qs : List (Str × Nat)} {ks : List NestedKey} (hq : ∀ q ∈ qs, q.2 ≤ 2) : ∀ (ts : List Tm) {d : Nat}, TmsIn qs ks d ts → (Tm.pres ts).length + ts.length ≤ ts.length * (2 * 2 ^ d)
  | [], d, _ => by simp [Tm.pres]
  | t :: ts, d, h => by
    unfold TmsIn at h
    have a := preN_in hq t h.1
    have b := presN_in hq ts h.2
    show (t.pre ++ Tm.pres ts).length + (ts.length + 1) ≤ (ts.length + 1) * (2 * 2 ^ d)
    rw [List.length_append, Nat.add_mul]
    omega
end
theorem sql_extN {K : PySem.W.Frag} {H H' : Hp} {a : Addr} {xs : List V} (e : ExtN H H') (g : SqL K H a xs) : SqL K H' a xs := by
  rcases g with (g | ⟨o, g⟩) | g
  · exact .inl (.inl (e _ _ g (by intro _ z; cases z)))
  · exact .inl (.inr ⟨o, e _ _ g (by intro _ z; cases z)⟩)
  · exact .inr g
abbrev PrimsAt (K : PySem.W.Frag) (S : List Addr) (qs : List (Str × Nat)) (v : V) (H : Hp) : Prop := ∃ ts a, v = .ref a ∧ SqL K (hide S H) a (ts.map V.ref) ∧ Paired (RowP K S H) ts qs
/-- things by variables -/
abbrev En := List (NestedKey × Nat)
def VlR (q : Mv) (x : NestedKey × Nat) : Prop := q.1 = x.1 ∧ q.2.2 = .int (x.2 : Int)
def VAt (K : PySem.W.Frag) (w : World) (G : Hp) (d : Addr) (ev : En) : Prop := ∃ mv, Mx K G w d mv ∧ Paired VlR mv ev
def eLook (ev : En) : NestedKey → Option Nat := fun k => (ev.find? fun x => decide (x.1 = k)).map (·.2)
def enD (ev : En) : PyData := .dict (ev.map fun x => (x.1.data, .int (x.2 : Int)))
theorem vl_en : ∀ {mv : List Mv} {ev : En}, Paired VlR mv ev → EnR mv (eLook ev)
  | _, _, .nil => fun k => rfl
  | _, _, .cons (a := q) (b := x) h t => fun k => by
    have ih := vl_en t k
    obtain ⟨h1, h2⟩ := h
    unfold vM eLook
    rw [List.find?_cons, List.find?_cons, h1]
    by_cases e : x.1 = k
    · rw [decide_eq_true e]
      show some q.2.2 = some (V.int (x.2 : Int))
      rw [h2]
    · rw [decide_eq_false e]
      exact ih
theorem vl_dr {K : PySem.W.Frag} {w : World} {G : Hp} : ∀ {mv : List Mv} {ev : En}, (∀ p ∈ mv, KeyV K G p.1 p.2.1 ∧ p.1.depth ≤ 8) → Paired VlR mv ev → DrKv K w G mv (ev.map fun x => (x.1.data, PyData.int (x.2 : Int)))
  | _, _, _, .nil => .nil
  | q :: mv, x :: ev, hk, hp => by
    have t : Paired VlR mv ev := by cases hp with | cons h t => exact t
    have h : VlR q x := by cases hp with | cons h t => exact h
    obtain ⟨h1, h2⟩ := h
    refine .cons ?_ ?_ (vl_dr (fun p hp => hk p (List.mem_cons_of_mem _ hp)) t)
    · rw [← h1]
      exact KeyV.dr _ _ (hk q List.mem_cons_self).1
    · rw [h2]
      exact .int _
theorem vat_dr {K : PySem.W.Frag} {w : World} {G : Hp} {d : Addr} {ev : En} (h : VAt K w G d ev) : Dr K w G (.ref d) (enD ev) := by
  obtain ⟨mv, h1, h2⟩ := h
  exact .dct h1 (vl_dr h1.key h2)
theorem VAt.mono {K : PySem.W.Frag} {w : World} {G G' : Hp} {d : Addr} {ev : En} (e : Ex G G') (h : VAt K w G d ev) : VAt K w G' d ev := by
  obtain ⟨mv, h1, h2⟩ := h
  exact ⟨mv, h1.mono e, h2⟩
theorem eLook_some {ev : En} {k : NestedKey} (h : k ∈ ev.map (·.1)) : (eLook ev k).isSome = true := by
  unfold eLook
  rw [Option.isSome_map, List.find?_isSome]
  obtain ⟨x, hx, e⟩ := List.mem_map.mp h
  exact ⟨x, hx, decide_eq_true e⟩
theorem merge_nodup : ∀ {rows acc : List Mv}, ((acc ++ rows).map (·.1)).Nodup → mergeM acc rows = acc ++ rows
  | [], acc, _ => by rw [List.append_nil]; rfl
  | r :: rows, acc, h => by
    have e : acc ++ r :: rows = (acc ++ [r]) ++ rows := by simp
    have new : r.1 ∉ acc.map (·.1) := fun z => by
      rw [List.map_append, List.nodup_append] at h
      exact h.2.2 r.1 z r.1 (by simp) rfl
    show mergeM (pM acc r.1 r.2.1 r.2.2) rows = _
    rw [pM_new new, e]
    exact merge_nodup (by rw [← e]; exact h)
end L2.Vf.K14
/-! A lap of the law: what is drawn. -/
namespace L2.Vf.K14
open PySem PySem.Spec PyProof.Rows
open Evl (Ex Ev EvT EvL EvA)
open NdefX LamX
/-- the law's slots -/
abbrev sl (a p : Addr) (ys : List (Option V)) : St := some (.ref a) :: some (.ref p) :: ys
section
variable (K : PySem.W.Frag) (w : World) (C : Addr) (T : List (Addr × Str))
def b1 : TS := tAsg (tTup (tCons (tCall (spPrims K) [] E0 (tCons (tVar 1) tNil)) (tCons (tCall (spVars K) [] E0 (tCons (tVar 1) (tCons (tC (.int 5)) tNil))) tNil))) (gTup K 2 (gCons (gName 3) (gCons (gName 4) gNil)))
def b2 : TS := tAsg (tCB (rDictM K w) (tCons (tLc (iList K (tVar 4)) (gName 18) tYes (tTup (tCons (tVar 18) (tCons (tCall (spOf K) [] E0 (tCons (tVar 1) (tCons (tLst (tCons (tC (.int 0)) (tCons (tC (.int 1)) (tCons (tC (.int 2)) (tCons (tC (.int 3)) (tCons (tC (.int 4))
  (tCons (tOp (rI CPow fun i j => V.int (i ^ j.toNat)) (tC (.int 10)) (tC (.int 20))) tNil))))))) tNil))) tNil))) [18]) tNil)) (gName 5)
def b3 : TS := tAsg (tLc (iRng1 (tCons (tC (.int 2)) tNil)) (gName 8) tYes (tCall (spLess K 5) [] E0 (tCons (tVar 1) (tCons (tVar 3) (tCons (tVar 4) (tCons (tOp (rI0 fun i j => V.int (i + j)) (tC (.int 1)) (tCall spPick [] E0 (tCons (tVar 1) (tCons (tC (.int 4)) tNil)))) tNil))))) [8]) (gName 6)
def b4 : TS := tAsg (tMNew w) (gName 7)
def b5 : TS := tFor (iRng1 (tCons (tCall spPick [] E0 (tCons (tVar 1) (tCons (tC (.int 5)) tNil))) tNil)) (gName 8) (sMPut K w (tVar 7) (tCall (spOf K) [] E0 (tCons (tVar 1) (tCons (tVar 4) tNil)))
  (tCall (spLess K 5) [] E0 (tCons (tVar 1) (tCons (tVar 3) (tCons (tVar 4) (tCons (tCall spPick [] E0 (tCons (tVar 1) (tCons (tC (.int 3)) tNil))) tNil))))))
def b6 : TS := tAsg (tTup (tCons (tLc (iList K (tVar 6)) (gName 11) tYes (tCall (spPut K w 5) [] E0 (tCons (tVar 11) (tCons (tVar 7) tNil))) [11]) (tCons (tMNew w) tNil))) (gTup K 2 (gCons (gName 9) (gCons (gName 10) gNil)))
def b7 : TS := tFor (iList K (tOp rCat (tVar 6) (tVar 9))) (gName 11) (tDrop (tCall (spGrown K w 7) [] E0 (tCons (tVar 1) (tCons (tVar 10) (tCons (tVar 11) (tCons (tVar 5) tNil))))))
end
theorem upd_upd {H : Hp} {d : Addr} {a b : HO} : upd (upd H d a) d b = upd H d b := by
  funext x
  by_cases e : x = d
  · rw [e, upd_same, upd_same]
  · rw [upd_ne e, upd_ne e, upd_ne e]
theorem dict_new {K : PySem.W.Frag} {w : World} {S : List Addr} {H : Hp} {d : Addr} {rows : List Mv} (dS : d ∉ S) (nd : H d = none) (ns : (d == sysModules) = false) (hk : ∀ r ∈ rows, KeyV K (hide S H) r.1 r.2.1 ∧ r.1.depth ≤ 8) (one : (rows.map (·.1)).Nodup) (l : rows.length ≤ 1000) :
    Mx K (hide S (upd H d (mxo d w (mergeM [] rows)))) w d rows := by
  have nd' : hide S H d = none := by rw [hide_off dS]; exact nd
  have m := Mx.disp (w := w) ns rows [] (Mx.new (K := K) (H := hide S H) ns) upd_same (fun r hr => ⟨KeyV.mono (Ex.new nd') _ _ (hk r hr).1, (hk r hr).2⟩) (by simpa using l)
  rw [hide_upd dS, ← upd_upd (a := mxo d w [])]
  have e : mergeM [] rows = rows := merge_nodup (acc := []) (by simpa using one)
  rw [e] at m ⊢
  exact m
theorem menu6 {j : Nat} {v : V} (h : [V.int 0, V.int 1, V.int 2, V.int 3, V.int 4, V.int (10 ^ 20)][j]? = some v) : ∃ n : Nat, v = V.int (n : Int) ∧ (n < 21 ∨ n = 10 ^ 20) := by
  match j, h with
  | 0, h => exact ⟨0, (Option.some.inj h).symm, .inl (by omega)⟩
  | 1, h => exact ⟨1, (Option.some.inj h).symm, .inl (by omega)⟩
  | 2, h => exact ⟨2, (Option.some.inj h).symm, .inl (by omega)⟩
  | 3, h => exact ⟨3, (Option.some.inj h).symm, .inl (by omega)⟩
  | 4, h => exact ⟨4, (Option.some.inj h).symm, .inl (by omega)⟩
  | 5, h => exact ⟨10 ^ 20, (Option.some.inj h).symm, .inr rfl⟩
  | j + 6, h => simp at h
/-- what a lap's first things are -/
structure La (K : PySem.W.Frag) (w : World) (p c : Addr) (qs : List (Str × Nat)) (ks : List NestedKey) (pv : V) (as : Addr) (xs : List V) (H : Hp) : Prop where
  src : Src H p c
  prims : PrimsAt K [p, c] qs pv H
  list : SqL K (hide [p, c] H) as xs
  keys : KeyVs K (hide [p, c] H) ks xs
/-- the names of a lap -/
structure Nm (qs : List (Str × Nat)) (ks : List NestedKey) : Prop where
  over : Over qs ks
  q3 : 3 ≤ qs.length
  q5 : qs.length ≤ 5
  qn : (qs.map (·.1)).Nodup
  name : ∀ q ∈ qs, NameOk q.1
  k5 : ks.length = 5
  kn : ks.Nodup
section
variable {K : PySem.W.Frag} {w : World} {C : Addr} {T : List (Addr × Str)} {a p c as : Addr} {H H' : Hp} {D : Ends} {y2 y3 y4 y5 y6 y7 y8 y9 y10 y11 y12 y13 y14 y15 y16 y17 y18 : Option V} {qs : List (Str × Nat)} {ks : List NestedKey} {pv : V} {xs : List V}
theorem La.but (L : La K w p c qs ks pv as xs H) (e : But [p, c] H H') (S : Src H' p c) : La K w p c qs ks pv as xs H' := by
  obtain ⟨_, ⟨ts, ap, rfl, h1, h2⟩, h3, h4⟩ := L
  exact ⟨S, ⟨ts, ap, rfl, Evl.ex_l e h1, pairedTo h2 fun t q g => Evl.ex_t e g⟩, Evl.ex_l e h3, h4.but e⟩
theorem La.ex (L : La K w p c qs ks pv as xs H) (e : Ex H H') : La K w p c qs ks pv as xs H' := L.but (But.of e) (L.src.ex e)
theorem b1_ok (S : Src H p c) (h : ∀ (pv : V) (as : Addr) (xs : List V) (qs : List (Str × Nat)) (ks : List NestedKey) (H' : Hp), La K w p c qs ks pv as xs H' → Nm qs ks → But [p, c] H H' →
    D.nx (sl a p [y2, some pv, some (.ref as), y5, y6, y7, y8, y9, y10, y11, y12, y13, y14, y15, y16, y17, y18]) H') : b1 K D (sl a p [y2, y3, y4, y5, y6, y7, y8, y9, y10, y11, y12, y13, y14, y15, y16, y17, y18]) H := by
  unfold b1
  refine ⟨_, rfl, p, c, rfl, S, fun pv H1 qs hq q3 q5 hqs qn S1 c1 => ⟨_, rfl, p, c, 5, rfl, S1, by decide, fun sv H2 ks hk lk nd hv S2 c2 => ?_⟩⟩
  obtain ⟨ts, ap, rfl, h1, h2⟩ := hq
  obtain ⟨as, xs, rfl, h3, h4⟩ := hk
  refine ⟨(by show (2 : Nat) ≤ sizeLine; decide), fun t nt => ⟨t, _, rfl, SqT.of upd_same, rfl, _, _, rfl, _, _, rfl, rfl, ?_⟩⟩
  have L2 : La K w p c qs ks (.ref ap) as xs H2 := ⟨S2, ⟨ts, ap, rfl, Evl.ex_l c2 h1, pairedTo h2 fun t q g => Evl.ex_t c2 g⟩, h3, h4⟩
  refine h _ as xs qs ks _ (L2.ex (Ex.new nt)) ⟨⟨fun q hq => ⟨(hqs q hq).2, (name_sm (hqs q hq).1).1, (name_sm (hqs q hq).1).2⟩, fun k hk => ?_⟩, q3, q5, qn, fun q hq => (hqs q hq).1, lk, nd⟩ ((c1.trans c2).trans (But.of (Ex.new nt)))
  obtain ⟨v1, v2, v3⟩ := var_sm (by decide) (hv k hk)
  obtain ⟨v4, v5⟩ := var_lay (hv k hk)
  exact ⟨v1, v2, v3, v4, v5⟩
/-- values as they are drawn -/
def EvOk (ks : List NestedKey) (ev : En) : Prop := ev.map (·.1) = ks ∧ ∀ x ∈ ev, x.2 < 21 ∨ x.2 = 10 ^ 20
theorem b2_ok (L : La K w p c qs ks pv as xs H) (N : Nm qs ks) (h : ∀ (d : Addr) (ev : En) (H' : Hp), La K w p c qs ks pv as xs H' → VAt K w (hide [p, c] H') d ev → EvOk ks ev → But [p, c] H H' →
    D.nx (sl a p [y2, some pv, some (.ref as), some (.ref d), y6, y7, y8, y9, y10, y11, y12, y13, y14, y15, y16, y17, y18]) H') : b2 K w D (sl a p [y2, some pv, some (.ref as), y5, y6, y7, y8, y9, y10, y11, y12, y13, y14, y15, y16, y17, y18]) H := by
  unfold b2
  have lks := keyVs_len L.keys
  have k5 := N.k5
  refine ⟨_, rfl, as, rfl, ⟨_, Evl.ex_l hide_ex L.list⟩, fun D0 nD => ?_⟩
  have DS : D0 ∉ [p, c] := L.src.kn.off nD
  refine lc_list (K := K) (a := as) (xs := xs) (fun j H' => ∃ (ps : List Addr) (rows : List Mv) (ev : En), H' D0 = some (.lst (ps.map V.ref)) ∧ Paired (fun q (r : Mv) => SqT K (hide [p, c] H') q [r.2.1, r.2.2]) ps rows ∧ (∀ r ∈ rows, KeyV K (hide [p, c] H') r.1 r.2.1 ∧ r.1.depth ≤ 8) ∧ Paired VlR rows ev ∧ ev.map (·.1) = ks.take j ∧ rows.map (·.1) = ks.take j ∧ (∀ x ∈ ev, x.2 < 21 ∨ x.2 = 10 ^ 20) ∧ Src H' p c ∧ But [p, c] H H')
    ⟨[], [], [], upd_same, .nil, (fun r z => by cases z), .nil, rfl, rfl, (fun x z => by cases z), L.src.ex (Ex.new nD), But.of (Ex.new nD)⟩ (fun i H' _ h => by obtain ⟨_, _, _, _, _, _, _, _, _, _, _, b⟩ := h; exact Evl.ex_l hide_ex (Evl.ex_l b L.list)) ?_ ?_
  · rintro j x H1 hj ⟨ps, rows, ev, hD, hps, hkr, hvl, hek, hrk, hev, S1, b1⟩
    have jl := (List.getElem?_eq_some_iff.mp hj).1
    obtain ⟨k, hk⟩ : ∃ k, ks[j]? = some k := ⟨_, List.getElem?_eq_getElem (by omega)⟩
    obtain ⟨x', hx', hkx⟩ := keyVs_get L.keys hk
    rw [hj] at hx'
    obtain rfl := Option.some.inj hx'
    refine ⟨rfl, _, rfl, _, rfl, _, _, rfl, rfl, (by unfold CPow; decide), (by show (6 : Nat) ≤ sizeLine; decide), fun r2 nr2 => ?_⟩
    have e2 : Ex H1 (upd H1 r2 (.lst [V.int 0, V.int 1, V.int 2, V.int 3, V.int 4, V.int (10 ^ 20)])) := Ex.new nr2
    refine ⟨p, c, r2, _, rfl, S1.ex e2, SqL.of (hide_new S1.kn nr2), (by show 1 ≤ 6; omega), (by show 6 ≤ 1000; omega), fun jj v' H3 hv S3 b3 => ⟨(by show (2 : Nat) ≤ sizeLine; decide), fun t5 n5 => ?_⟩⟩
    obtain ⟨n, rfl, hn⟩ := menu6 hv
    have b13 : But [p, c] H1 H3 := (But.of e2).trans b3
    have e5 : Ex H3 (upd H3 t5 (.tup [x, .int (n : Int)])) := Ex.new n5
    have b15 := b13.trans (But.of e5)
    have hD5 := b15.get DS hD
    have lp : ps.length = j := by
      have := Paired.length hps
      have e := congrArg List.length hrk
      rw [List.length_map, List.length_take] at e
      omega
    have tk : ks.take (j + 1) = ks.take j ++ [k] := by rw [List.take_add_one, hk]; rfl
    have up : ∀ {b : Addr} {zs : List V}, SqT K (hide [p, c] H1) b zs → SqT K (hide [p, c] (upd (upd H3 t5 (.tup [x, .int (n : Int)])) D0 (.lst ((ps ++ [t5]).map V.ref)))) b zs := fun g => sqt_off hD5 (Evl.ex_t b15 g)
    have t5h : SqT K (hide [p, c] (upd H3 t5 (.tup [x, .int (n : Int)]))) t5 [x, .int (n : Int)] := SqT.of (hide_new S3.kn n5)
    have em : (ps ++ [t5]).map V.ref = ps.map V.ref ++ [V.ref t5] := by rw [List.map_append]; rfl
    refine ⟨_, hD5, small1000 (by rw [List.length_map]; omega), ps ++ [t5], rows ++ [(k, x, .int (n : Int))], ev ++ [(k, n)], by rw [← em, upd_same], ?_, ?_, pairApp hvl (.cons ⟨rfl, rfl⟩ .nil), ?_, ?_, ?_, (S3.ex e5).off DS, (b1.trans b15).mut nD⟩
    · rw [← em]
      exact pairApp (pairedTo hps fun _ _ g => up g) (.cons (sqt_off hD5 t5h) .nil)
    · rw [← em]
      intro r hr
      rcases List.mem_append.mp hr with z | z
      · exact ⟨KeyV.to up _ _ (hkr r z).1, (hkr r z).2⟩
      · rw [List.mem_singleton.mp z]
        exact ⟨KeyV.to (fun g => up (Evl.ex_t b1 g)) _ _ hkx, (N.over.k k (List.mem_of_getElem? hk)).2.2.1⟩
    · rw [List.map_append, hek, tk]
      rfl
    · rw [List.map_append, hrk, tk]
      rfl
    · intro y hy
      rcases List.mem_append.mp hy with z | z
      · exact hev y z
      · rw [List.mem_singleton.mp z]
        exact hn
  · rintro H1 ⟨ps, rows, ev, hD, hps, hkr, hvl, hek, hrk, hev, S1, b1⟩
    have et : ks.take xs.length = ks := by rw [lks, List.take_length]
    rw [et] at hek hrk
    have lr : rows.length = 5 := by
      have e := congrArg List.length hrk
      rw [List.length_map] at e
      omega
    refine ⟨D0, ps, rows, rfl, SqL.of hD, pairedTo hps fun _ _ g => Evl.ex_t hide_ex g, fun r hr => ⟨KeyV.mono hide_ex _ _ (hkr r hr).1, (hkr r hr).2⟩, by omega, fun d nd ns => ?_⟩
    have m := dict_new (w := w) (S1.kn.off nd) nd ns hkr (by rw [hrk]; exact N.kn) (by omega)
    have bd : But [p, c] H (upd H1 d (mxo d w (mergeM [] rows))) := b1.trans (But.of (Ex.new nd))
    exact h d ev _ (L.but bd (S1.ex (Ex.new nd))) ⟨rows, m, hvl⟩ ⟨hek, hev⟩ bd
end
end L2.Vf.K14
/-! A lap of the law: terms, a table, the terms with it put in. -/
namespace L2.Vf.K14
open PySem PySem.Spec PyProof.Rows
open Evl (Ex Ev EvT EvL EvA)
open NdefX LamX
def TmsAt (K : PySem.W.Frag) (G : Hp) (at_ : Addr) (ts : List Tm) : Prop := ∃ vs, G at_ = some (.lst vs) ∧ TmVs K G ts vs
section
variable {K : PySem.W.Frag} {w : World} {C : Addr} {T : List (Addr × Str)} {a p c as at_ d dt : Addr} {H H' H0 : Hp} {D : Ends} {y2 y3 y4 y5 y6 y7 y8 y9 y10 y11 y12 y13 y14 y15 y16 y17 y18 : Option V} {qs : List (Str × Nat)} {ks : List NestedKey} {pv : V} {xs : List V} {ts : List Tm} {tb : Tb}
theorem TmsAt.mono {G G' : Hp} (e : Ex G G') (h : TmsAt K G at_ ts) : TmsAt K G' at_ ts := by
  obtain ⟨vs, h1, h2⟩ := h
  exact ⟨vs, e _ _ h1, TmVs.to (fun g => Evl.ex_t e g) _ _ h2⟩
theorem tmVs_one {G : Hp} {t : Tm} {v : V} (h : TmV K G t v) : TmVs K G [t] [v] := .cons h .nil
theorem b3_ok (L : La K w p c qs ks pv as xs H) (N : Nm qs ks) (h : ∀ (at_ : Addr) (ts : List Tm) (H' : Hp), TmsAt K (hide [p, c] H') at_ ts → ts.length = 2 → (∀ t ∈ ts, TmIn qs ks 4 t) → Src H' p c → But [p, c] H H' →
    D.nx (sl a p [y2, some pv, some (.ref as), y5, some (.ref at_), y7, y8, y9, y10, y11, y12, y13, y14, y15, y16, y17, y18]) H') : b3 K D (sl a p [y2, some pv, some (.ref as), y5, y6, y7, y8, y9, y10, y11, y12, y13, y14, y15, y16, y17, y18]) H := by
  unfold b3
  have k5 := N.k5
  have q3 := N.q3
  refine ⟨_, rfl, (by omega), (by omega), fun D0 nD => ?_⟩
  have DS : D0 ∉ [p, c] := L.src.kn.off nD
  refine lc_range (lo := 0) (n := 2) (fun j H' => ∃ (vs : List V) (ts : List Tm), H' D0 = some (.lst vs) ∧ TmVs K (hide [p, c] H') ts vs ∧ ts.length = j ∧ (∀ t ∈ ts, TmIn qs ks 4 t) ∧ Src H' p c ∧ But [p, c] H H')
    ⟨[], [], upd_same, .nil, rfl, (fun t z => by cases z), L.src.ex (Ex.new nD), But.of (Ex.new nD)⟩ ?_ ?_
  · rintro j H1 hj ⟨vs, ts, hD, hts, lt, hin, S1, b1⟩
    refine ⟨rfl, _, rfl, _, rfl, _, rfl, _, rfl, p, c, 4, rfl, S1, (by decide), (by decide), fun m H2 m0 m4 S2 b2 => ⟨_, _, rfl, rfl, ?_⟩⟩
    obtain ⟨m, rfl⟩ := Int.eq_ofNat_of_zero_le m0
    have eq : (1 : Int) + (m : Int) = ((m + 1 : Nat) : Int) := by omega
    have L2 := L.but (b1.trans b2) S2
    refine ⟨m + 1, by omega, p, c, pv, .ref as, qs, ks, ?_, S2, L2.prims, ⟨as, xs, rfl, L2.list, L2.keys⟩, by omega, by omega, fun k hk => (N.over.k k hk).2.2.1, by omega, N.q5, fun q hq => (N.over.q q hq).1, fun v H3 t ht hv S3 b3 => ?_⟩
    · show [V.ref p, pv, V.ref as, V.int (1 + (m : Int))] = _
      rw [eq]
    · have b13 := b2.trans b3
      have hD3 := b13.get DS hD
      have lv := tmVs_len hts
      refine ⟨vs, hD3, small1000 (by omega), vs ++ [v], ts ++ [t], upd_same, ?_, by rw [List.length_append, lt]; rfl, fun u hu => ?_, S3.off DS, (b1.trans b13).mut nD⟩
      · exact tmVs_app (TmVs.offL hD3 (TmVs.to (fun g => Evl.ex_t b13 g) _ _ hts)) (tmVs_one (TmV.offL hD3 hv))
      · rcases List.mem_append.mp hu with z | z
        · exact hin u z
        · rw [List.mem_singleton.mp z]
          exact tmIn_mono t (by omega) ht
  · rintro H1 ⟨vs, ts, hD, hts, lt, hin, S1, b1⟩
    exact h D0 ts H1 ⟨vs, by rw [hide_off DS]; exact hD, hts⟩ lt hin S1 b1
theorem b4_ok (S : Src H p c) (h : ∀ (dt : Addr) (H' : Hp), H dt = none → TabAt K w [p, c] H' dt [] → Src H' p c → But [p, c] H H' → D.nx (sl a p [y2, y3, y4, y5, y6, some (.ref dt), y8, y9, y10, y11, y12, y13, y14, y15, y16, y17, y18]) H') :
    b4 w D (sl a p [y2, y3, y4, y5, y6, y7, y8, y9, y10, y11, y12, y13, y14, y15, y16, y17, y18]) H := by
  unfold b4
  exact fun dt nd ns => h dt _ nd (TabAt.new S.kn nd ns) (S.ex (Ex.new nd)) (But.of (Ex.new nd))
theorem b5_ok (L0 : La K w p c qs ks pv as xs H0) (N : Nm qs ks) (n0 : H0 dt = none) (b0 : But [p, c] H0 H) (S : Src H p c) (t0 : TabAt K w [p, c] H dt []) (h : ∀ (tb : Tb) (z8 : Option V) (H' : Hp), TabAt K w [p, c] H' dt tb → (∀ r ∈ tb, r.1 ∈ ks ∧ TmIn qs ks 2 r.2) → Src H' p c → But [p, c] H0 H' →
    D.nx (sl a p [y2, some pv, some (.ref as), y5, y6, some (.ref dt), z8, y9, y10, y11, y12, y13, y14, y15, y16, y17, y18]) H') : b5 K w D (sl a p [y2, some pv, some (.ref as), y5, y6, some (.ref dt), y8, y9, y10, y11, y12, y13, y14, y15, y16, y17, y18]) H := by
  unfold b5
  have k5 := N.k5
  have q3 := N.q3
  have lks := keyVs_len L0.keys
  have k8 : ∀ k ∈ ks, k.depth ≤ 8 := fun k hk => (N.over.k k hk).2.2.1
  have nS : dt ∉ [p, c] := L0.src.kn.off n0
  refine ⟨_, rfl, p, c, 5, rfl, S, (by decide), (by decide), fun m H2 m0 m6 S2 b2 => ⟨_, rfl, (by omega), (by omega), ?_⟩⟩
  obtain ⟨m, rfl⟩ := Int.eq_ofNat_of_zero_le m0
  refine for_range (lo := 0) (n := ((m : Nat) : Int).toNat) (fun i σ H' => ∃ (z8 : Option V) (tb : Tb), σ = sl a p [y2, some pv, some (.ref as), y5, y6, some (.ref dt), z8, y9, y10, y11, y12, y13, y14, y15, y16, y17, y18] ∧ TabAt K w [p, c] H' dt tb ∧ tb.length ≤ i ∧
    (∀ q ∈ tb, q.1 ∈ ks ∧ TmIn qs ks 2 q.2) ∧ Src H' p c ∧ But [p, c] H0 H') ⟨_, [], rfl, t0.but b2, Nat.le_refl _, (fun q z => by cases z), S2, b0.trans b2⟩ ?_ ?_
  · rintro i σ H3 hi ⟨z8, tb, rfl, ht3, hl, hok, S3, b3⟩
    rw [Int.toNat_natCast] at hi
    refine ⟨_, rfl, _, rfl, _, rfl, _, rfl, p, c, 3, rfl, S3, (by decide), (by decide), fun e H4 e0 e3 S4 b4 => ?_⟩
    obtain ⟨e, rfl⟩ := Int.eq_ofNat_of_zero_le e0
    have b04 := b3.trans b4
    have L4 := L0.but b04 S4
    refine ⟨e, by omega, p, c, pv, .ref as, qs, ks, rfl, S4, L4.prims, ⟨as, xs, rfl, L4.list, L4.keys⟩, by omega, by omega, k8, by omega, N.q5, fun q hq => (N.over.q q hq).1, fun v H5 t ht htv S5 b5 => ?_⟩
    have b05 := b04.trans b5
    have L5 := L0.but b05 S5
    refine ⟨_, rfl, _, rfl, _, rfl, p, c, as, xs, rfl, S5, L5.list, (by omega), (by omega), fun j u H6 hj S6 b6 => ?_⟩
    obtain ⟨k, hkj⟩ : ∃ k, ks[j]? = some k := ⟨_, List.getElem?_eq_getElem (by have := (List.getElem?_eq_some_iff.mp hj).1; omega)⟩
    obtain ⟨u', hu', hku⟩ := keyVs_get L0.keys hkj
    rw [hj] at hu'
    cases hu'
    have b06 := b05.trans b6
    have hk := List.mem_of_getElem? hkj
    obtain ⟨mv, hm, ow, lm, ht6⟩ := (((ht3.but b4).but b5).but b6).put (hku.but b06) (k8 k hk) (htv.but b6) (by omega)
    refine ⟨dt, mv, k, rfl, hm, ow, KeyV.mono hide_ex _ _ (hku.but b06), k8 k hk, lm, _, tPut tb k t, rfl, ht6, Nat.le_trans (tPut_len _ _ _) (by omega), fun q hq => ?_, S6.off nS, b06.mut n0⟩
    have t2 := tmIn_mono t (by omega : e ≤ 2) ht
    rcases tPut_mem hq with ⟨q0, h1, h2, h3⟩ | ⟨h1, h2⟩
    · refine ⟨h2 ▸ (hok q0 h1).1, ?_⟩
      rcases h3 with h3 | h3
      · rw [h3]
        exact (hok q0 h1).2
      · rw [h3]
        exact t2
    · rw [h1, h2]
      exact ⟨hk, t2⟩
  · rintro σ H3 ⟨z8, tb, rfl, ht3, hl, hok, S3, b3⟩
    exact h tb z8 H3 ht3 hok S3 b3
theorem b6_ok (S : Src H p c) (ht : TmsAt K (hide [p, c] H) at_ ts) (hd : ∀ t ∈ ts, t.deep < 5) (l2 : ts.length ≤ 10) (tt : TabAt K w [p, c] H dt tb)
    (h : ∀ (ap kd : Addr) (H' : Hp), TmsAt K (hide [p, c] H') ap (ts.map fun t => t.put tb) → KnO K w [p, c] H' kd [] [] → H kd = none → Src H' p c → Ex H H' → D.nx (sl a p [y2, y3, y4, y5, some (.ref at_), some (.ref dt), y8, some (.ref ap), some (.ref kd), y11, y12, y13, y14, y15, y16, y17, y18]) H') :
    b6 K w D (sl a p [y2, y3, y4, y5, some (.ref at_), some (.ref dt), y8, y9, y10, y11, y12, y13, y14, y15, y16, y17, y18]) H := by
  unfold b6
  obtain ⟨vs, h0, h2⟩ := ht
  have h1 : SqL K (hide [p, c] H) at_ vs := SqL.of h0
  have lv := tmVs_len h2
  refine ⟨_, rfl, at_, rfl, ⟨_, Evl.ex_l hide_ex h1⟩, fun D0 nD => ?_⟩
  have DS : D0 ∉ [p, c] := S.kn.off nD
  refine lc_list (K := K) (a := at_) (xs := vs) (fun j H' => ∃ us, H' D0 = some (.lst us) ∧ TmVs K (hide [p, c] H') ((ts.take j).map fun t => t.put tb) us ∧ Ex H H') ⟨[], upd_same, .nil, Ex.new nD⟩ (fun i H' _ h => by obtain ⟨_, _, _, e⟩ := h; exact Evl.ex_l e (Evl.ex_l hide_ex h1)) ?_ ?_
  · rintro j v H1 hj ⟨us, hD, hus, e1⟩
    obtain ⟨t, htj, htv⟩ := tmVs_take h2 hj
    have jl := (List.getElem?_eq_some_iff.mp hj).1
    refine ⟨rfl, _, rfl, _, rfl, [p, c], v, .ref dt, t, tb, rfl, (S.ex e1).kn, htv.but (But.of e1), (tt.but (But.of e1)).bq, hd t (List.mem_of_getElem? htj), fun x H2 hx e2 => ?_⟩
    have lu := tmVs_len hus
    rw [List.length_map, List.length_take] at lu
    refine ⟨us, e2 _ _ hD, small1000 (by omega), us ++ [x], upd_same, ?_, (e1.trans e2).mut nD⟩
    rw [List.take_add_one, htj, List.map_append]
    exact tmVs_app (TmVs.offL (e2 _ _ hD) (TmVs.to (fun g => Evl.ex_t (But.of e2) g) _ _ hus)) (tmVs_one (TmV.offL (e2 _ _ hD) hx))
  · rintro H1 ⟨us, hD, hus, e1⟩
    rw [lv, List.take_length] at hus
    intro kd nk sk
    refine ⟨(by show (2 : Nat) ≤ sizeLine; decide), fun t nt => ⟨t, _, rfl, SqT.of upd_same, rfl, _, _, rfl, _, _, rfl, rfl, ?_⟩⟩
    have S1 := S.ex e1
    have e2 : Ex H1 (upd H1 kd (mxo kd w [])) := Ex.new nk
    have e3 : Ex (upd H1 kd (mxo kd w [])) (upd (upd H1 kd (mxo kd w [])) t (.tup [V.ref D0, V.ref kd])) := Ex.new nt
    have kS : kd ∉ [p, c] := S1.kn.off nk
    have kn0 : KnO K w [p, c] (upd H1 kd (mxo kd w [])) kd [] [] := ⟨⟨[], upd_same, by rw [hide_upd kS]; exact Mx.new sk, .nil⟩, kS, by simp⟩
    have nH : H kd = none := by
      cases z : H kd with
      | none => rfl
      | some o =>
        rw [e1 _ _ z] at nk
        cases nk
    have e23 := e2.trans e3
    exact h D0 kd _ ⟨us, by rw [hide_off DS]; exact e23 _ _ hD, TmVs.to (fun g => Evl.ex_t (But.of e23) g) _ _ hus⟩ (kn0.but (But.of e3)) nH ((S1.ex e2).ex e3) (e1.trans e23)
end
end L2.Vf.K14
/-! A lap of the law: the tables grow. -/
namespace L2.Vf.K14
open PySem PySem.Spec PyProof.Rows
open Evl (Ex Ev EvT EvL EvA)
open NdefX LamX
structure Lg (K : PySem.W.Frag) (w : World) (p c : Addr) (qs : List (Str × Nat)) (ks : List NestedKey) (pv : V) (as : Addr) (xs : List V) (d : Addr) (ev : En) (at_ : Addr) (ts : List Tm) (dt : Addr) (tb : Tb) (ap kd : Addr) (κ : Kn) (zs : List Addr) (H : Hp) : Prop where
  la : La K w p c qs ks pv as xs H
  vals : VAt K w (hide [p, c] H) d ev
  terms : TmsAt K (hide [p, c] H) at_ ts
  table : TabAt K w [p, c] H dt tb
  puts : TmsAt K (hide [p, c] H) ap (ts.map fun t => t.put tb)
  known : KnO K w [p, c] H kd κ zs
  kok : KOk qs κ
  dn : d ∉ kd :: zs
  dtn : dt ∉ kd :: zs
mutual
theorem var_in {qs : List (Str × Nat)} {ks : List NestedKey} {k : NestedKey} : ∀ (t : Tm) {d : Nat}, TmIn qs ks d t → Tm.var k ∈ t.pre → k ∈ ks
  | .var j, d, h, hk => by
    have z : Tm.var k ∈ [Tm.var j] := hk
    have z := List.mem_singleton.mp z
    injection z with z
    unfold TmIn at h
    rw [z]
    exact h
  | .of x ts, 0, h, _ => by
    unfold TmIn at h
    exact h.elim
  | .of x ts, d + 1, h, hk => by
    unfold TmIn at h
    have z : Tm.var k ∈ Tm.of x ts :: Tm.pres ts := hk
    rcases List.mem_cons.mp z with e | z
    · cases e
    · exact vars_in ts h.2 z
theorem vars_in {qs : List (Str × Nat)} {ks : List NestedKey} {k : NestedKey} : ∀ (ts : List Tm) {d : Nat}, TmsIn qs ks d ts → Tm.var k ∈ Tm.pres ts → k ∈ ks
  | [], _, _, h => by cases h
  | t :: ts, d, h, hk => by
    unfold TmsIn at h
    have z : Tm.var k ∈ t.pre ++ Tm.pres ts := hk
    rcases List.mem_append.mp z with z | z
    · exact var_in t h.1 z
    · exact vars_in ts h.2 z
end
section
variable {K : PySem.W.Frag} {w : World} {C : Addr} {T : List (Addr × Str)} {a p c as at_ d dt ap kd : Addr} {H H' H0 : Hp} {D : Ends} {y2 y3 y4 y5 y6 y7 y8 y9 y10 y11 y12 y13 y14 y15 y16 y17 y18 : Option V} {qs : List (Str × Nat)} {ks : List NestedKey} {pv : V} {xs : List V} {ts : List Tm} {tb : Tb} {ev : En} {κ κ' : Kn} {zs zs' : List Addr}
theorem tms_fr {a1 : Addr} {us : List Tm} (k : KnO K w [p, c] H kd κ zs) (e : Fr4 p c kd zs H H') (h : TmsAt K (hide [p, c] H) a1 us) : TmsAt K (hide [p, c] H') a1 us := by
  obtain ⟨vs, h1, h2⟩ := h
  exact ⟨vs, fr_obj k e (fun _ z => by cases z) h1, TmVs.to (fun g => fr_t k e g) _ _ h2⟩
theorem Lg.fr (L : Lg K w p c qs ks pv as xs d ev at_ ts dt tb ap kd κ zs H) (S' : Src H' p c) (k' : KnO K w [p, c] H' kd κ' zs') (ok' : KOk qs κ') (n' : ∀ z ∈ zs', z ∈ zs ∨ H z = none) (e : Fr4 p c kd zs H H') : Lg K w p c qs ks pv as xs d ev at_ ts dt tb ap kd κ' zs' H' := by
  obtain ⟨⟨hS, ⟨tps, aq, rfl, h1, h2⟩, h3, h4⟩, ⟨mv, v1, v2⟩, h5, ⟨mt, t1, t2, t3, t4⟩, h6, k, ok, dn, dtn⟩ := L
  have nw : ∀ {x : Addr}, (∃ o, H x = some o) → x ∉ kd :: zs → x ∉ kd :: zs' := fun {x} hx hn z => by
    rcases List.mem_cons.mp z with q | q
    · exact hn (by rw [q]; exact List.mem_cons_self)
    · rcases n' x q with y | y
      · exact hn (List.mem_cons_of_mem _ y)
      · obtain ⟨o, ho⟩ := hx
        rw [ho] at y
        cases y
  have hd0 : ∃ o, H d = some o := by
    rcases v1.obj with g | ⟨od, g⟩
    · exact ⟨_, hide_ex _ _ g⟩
    · exact ⟨_, hide_ex _ _ g⟩
  have t1' : H' dt = some (mxo dt w mt) := e.get (fun z => by
    simp only [List.mem_cons] at z dtn
    simp only [List.mem_cons, List.not_mem_nil, or_false, not_or] at t2
    rcases z with z | z | z
    · exact t2.1 z
    · exact t2.2 z
    · exact dtn z) t1
  exact ⟨⟨S', ⟨tps, aq, rfl, fr_l k e h1, pairedTo h2 fun t q g => fr_t k e g⟩, fr_l k e h3, KeyVs.to (fun g => fr_t k e g) _ _ h4⟩, ⟨mv, fr_mx k e v1 dn, v2⟩, tms_fr k e h5, ⟨mt, t1', t2, fr_mx k e t3 dtn, tbR_mono (fun g => fr_t k e g) t4⟩, tms_fr k e h6, k', ok', nw hd0 dn, nw ⟨_, t1⟩ dtn⟩
theorem Lg.ex (L : Lg K w p c qs ks pv as xs d ev at_ ts dt tb ap kd κ zs H) (e : Ex H H') : Lg K w p c qs ks pv as xs d ev at_ ts dt tb ap kd κ zs H' :=
  L.fr (L.la.src.ex e) (L.known.but (But.of e)) L.kok (fun z hz => .inl hz) (But.of e)
theorem b7_ok (L : Lg K w p c qs ks pv as xs d ev at_ ts dt tb ap kd [] [] H) (N : Nm qs ks) (E : EvOk ks ev) (l2 : ts.length = 2) (hin : ∀ t ∈ ts, TmIn qs ks 4 t) (htb : ∀ r ∈ tb, r.1 ∈ ks ∧ TmIn qs ks 2 r.2) (b0 : But [p, c] H0 H) (k0 : H0 kd = none)
    (h : ∀ (κ : Kn) (zs : List Addr) (z11 : Option V) (H' : Hp), Lg K w p c qs ks pv as xs d ev at_ ts dt tb ap kd κ zs H' → sz κ ≤ 800 → But [p, c] H0 H' → D.nx (sl a p [y2, some pv, some (.ref as), some (.ref d), some (.ref at_), some (.ref dt), y8, some (.ref ap), some (.ref kd), z11, y12, y13, y14, y15, y16, y17, y18]) H') :
    b7 K w D (sl a p [y2, some pv, some (.ref as), some (.ref d), some (.ref at_), some (.ref dt), y8, some (.ref ap), some (.ref kd), y11, y12, y13, y14, y15, y16, y17, y18]) H := by
  unfold b7
  obtain ⟨vs, v1, v2⟩ := L.terms
  obtain ⟨us, u1, u2⟩ := L.puts
  have lv := tmVs_len v2
  have lu := tmVs_len u2
  rw [List.length_map] at lu
  refine ⟨_, rfl, _, rfl, at_, ap, vs, us, rfl, rfl, hide_ex _ _ v1, hide_ex _ _ u1, by rw [sizeLine_eq]; omega, fun r nr => ⟨r, rfl, ⟨_, SqL.of upd_same⟩, ?_⟩⟩
  have rS : r ∉ [p, c] := L.la.src.kn.off nr
  have e1 : Ex H (upd H r (.lst (vs ++ us))) := Ex.new nr
  have L1 := L.ex e1
  have hr1 : hide [p, c] (upd H r (.lst (vs ++ us))) r = some (.lst (vs ++ us)) := hide_new L.la.src.kn nr
  have all1 : TmVs K (hide [p, c] (upd H r (.lst (vs ++ us)))) (ts ++ ts.map fun t => t.put tb) (vs ++ us) := tmVs_app (TmVs.to (fun g => Evl.ex_t (But.of e1) g) _ _ v2) (TmVs.to (fun g => Evl.ex_t (But.of e1) g) _ _ u2)
  have b1 : But [p, c] H0 (upd H r (.lst (vs ++ us))) := b0.trans (But.of e1)
  have ein : ∀ t ∈ ts ++ ts.map fun t => t.put tb, TmIn qs ks 6 t := fun t ht => by
    rcases List.mem_append.mp ht with z | z
    · exact tmIn_mono t (by omega) (hin t z)
    · obtain ⟨u, hu, rfl⟩ := List.mem_map.mp z
      exact put_in_of (e := 2) (fun r hr => (htb r hr).2) u (hin u hu)
  generalize upd H r (.lst (vs ++ us)) = H1 at L1 hr1 all1 b1 ⊢
  have q2 : ∀ q ∈ qs, q.2 ≤ 2 := fun q hq => (N.over.q q hq).1
  refine for_list (K := K) (a := r) (xs := vs ++ us) (fun j σ H' => ∃ (z11 : Option V) (κ : Kn) (zs : List Addr), σ = sl a p [y2, some pv, some (.ref as), some (.ref d), some (.ref at_), some (.ref dt), y8, some (.ref ap), some (.ref kd), z11, y12, y13, y14, y15, y16, y17, y18] ∧ Lg K w p c qs ks pv as xs d ev at_ ts dt tb ap kd κ zs H' ∧
    hide [p, c] H' r = some (.lst (vs ++ us)) ∧ TmVs K (hide [p, c] H') (ts ++ ts.map fun t => t.put tb) (vs ++ us) ∧ sz κ ≤ 127 * j ∧ (∀ z ∈ zs, H0 z = none) ∧ But [p, c] H0 H') ⟨_, [], [], rfl, L1, hr1, all1, Nat.zero_le _, (fun z hz => by cases hz), b1⟩
    (fun i σ H' _ h => by obtain ⟨_, _, _, _, _, h, _⟩ := h; exact SqL.of (hide_ex _ _ h)) ?_ ?_
  · rintro j v σ H2 hj ⟨z11, κ, zs, rfl, L2, hr2, all2, s2, n2, b2⟩
    have jl := (List.getElem?_eq_some_iff.mp hj).1
    rw [List.length_append] at jl
    obtain ⟨t, htj, htv⟩ := tmVs_take all2 hj
    have tin := ein t (List.mem_of_getElem? htj)
    have pl := preN_in q2 t tin
    have e6 : 2 * 2 ^ 6 = 128 := rfl
    obtain ⟨mv, m1, m2⟩ := L2.vals
    have dp := tmIn_deep t tin
    refine ⟨_, rfl, _, rfl, _, rfl, _, rfl, p, c, kd, d, v, t, mv, κ, zs, eLook ev, qs, ks, 6, rfl, L2.la.src, L2.known, htv, m1, L2.dn, vl_en m2, (fun k hk => eLook_some (by rw [E.1]; exact var_in t tin hk)), tin, by omega, L2.kok, N.qn, by omega, fun x H3 κ3 zs3 S3 K3 ok3 sz3 n3 f3 => ?_⟩
    refine ⟨_, κ3, zs3, rfl, L2.fr S3 K3 ok3 n3 f3, fr_obj L2.known f3 (fun _ z => by cases z) hr2, TmVs.to (fun g => fr_t L2.known f3 g) _ _ all2, by omega, fun z hz => ?_, ?_⟩
    · rcases n3 z hz with y | y
      · exact n2 z y
      · cases ho : H0 z with
        | none => rfl
        | some o =>
          by_cases zS : z ∈ [p, c]
          · obtain ⟨o', ho'⟩ := L2.la.src.kn z zS
            rw [ho'] at y
            cases y
          · rw [b2.get zS ho] at y
            cases y
    · refine But.by fun b o nb hb => f3.get (fun z => ?_) (b2.get nb hb)
      simp only [List.mem_cons] at z
      simp only [List.mem_cons, List.not_mem_nil, or_false, not_or] at nb
      rcases z with z | z | z | z
      · exact nb.1 z
      · exact nb.2 z
      · rw [z, k0] at hb
        cases hb
      · rw [n2 b z] at hb
        cases hb
  · rintro σ H2 ⟨z11, κ, zs, rfl, L2, hr2, all2, s2, n2, b2⟩
    rw [List.length_append] at s2
    exact h κ zs z11 H2 L2 (by omega) b2
end
end L2.Vf.K14
/-! A lap of the law: the meaning is made. -/
namespace L2.Vf.K14
open PySem PySem.Spec PyProof.Rows
open Evl (Ex Ev EvT EvL EvA)
open NdefX LamX
section
variable (K : PySem.W.Frag) (w : World) (C : Addr) (T : List (Addr × Str))
def b8 : TS := tAsg (tTup (tCons (tMake C (spMInit K w C) [] E0 (tCons (tCB (rDictM K w) (tCons (tLockE (tLc (iMix w (tVar 10)) (gName 16) tYes (tTup (tCons (tVar 16) (tCons (tItemsM K w (tMGet K w (tVar 10) (tVar 16))) tNil))) [16])) tNil)) tNil)) (tCons (tCB (rReprM K w) (tCons (tVar 5) tNil)) tNil)))
  (gTup K 2 (gCons (gName 12) (gCons (gName 13) gNil)))
end
theorem en_kv {ks : List NestedKey} {qs : List (Str × Nat)} (O : Over qs ks) : ∀ {ev : En}, (∀ x ∈ ev, x.1 ∈ ks ∧ (x.2 < 21 ∨ x.2 = 10 ^ 20)) → smKv (ev.map fun x => (x.1.data, PyData.int (x.2 : Int))) = true ∧ cntKv (ev.map fun x => (x.1.data, PyData.int (x.2 : Int))) ≤ 10 * ev.length ∧ PyData.depthKv (ev.map fun x => (x.1.data, PyData.int (x.2 : Int))) ≤ 1
  | [], _ => ⟨by simp only [List.map_nil, smKv], by simp only [List.map_nil, cntKv]; omega, by simp only [List.map_nil, PyData.depthKv]; omega⟩
  | x :: ev, h => by
    obtain ⟨h1, h2⟩ := h x List.mem_cons_self
    obtain ⟨i1, i2, i3⟩ := en_kv O (ev := ev) fun q hq => h q (List.mem_cons_of_mem _ hq)
    obtain ⟨b1, b2, _, _, b5⟩ := O.k _ h1
    have s : smD (.int (x.2 : Int)) = true := by
      rcases h2 with h2 | h2
      · exact num_sm _ h2
      · rw [h2]
        exact big_sm
    have c1 : Vf.cnt (.int (x.2 : Int)) ≤ 1 := by simp only [Vf.cnt]; omega
    have d1 : (PyData.int (x.2 : Int)).depth = 0 := by simp only [PyData.depth]
    refine ⟨?_, ?_, ?_⟩
    · simp only [List.map_cons, smKv, s, b1, i1, Bool.and_self]
    · simp only [List.map_cons, cntKv, List.length_cons]
      omega
    · simp only [List.map_cons, PyData.depthKv]
      omega
theorem en_shown {ks : List NestedKey} {qs : List (Str × Nat)} {ev : En} (N : Nm qs ks) (E : EvOk ks ev) : (enD ev).showable = true ∧ (enD ev).depth ≤ 150 ∧ (enD ev).shown.length ≤ sizeLine ∧ PyData.strOk (enD ev).shown = true := by
  obtain ⟨i1, i2, i3⟩ := en_kv N.over (ev := ev) fun x hx => ⟨by rw [← E.1]; exact List.mem_map.mpr ⟨x, hx, rfl⟩, E.2 x hx⟩
  have le : ev.length = 5 := by
    have e := congrArg List.length E.1
    rw [List.length_map, N.k5] at e
    exact e
  have s1 : smD (enD ev) = true := by
    unfold enD
    simp only [smD]
    exact i1
  have s2 := shown_le _ s1
  have s3 : Vf.cnt (enD ev) = cntKv (ev.map fun x => (x.1.data, PyData.int (x.2 : Int))) + 1 := by unfold enD; simp only [Vf.cnt]
  have s4 : (enD ev).depth = PyData.depthKv (ev.map fun x => (x.1.data, PyData.int (x.2 : Int))) + 1 := by unfold enD; simp only [PyData.depth]
  have sz : sizeLine = 16777216 := sizeLine_eq
  exact ⟨sm_showable _ s1, by omega, by omega, asc_ok (shown_asc _ s1)⟩
theorem prim_word : ∀ n, n < 10 → 1 ≤ (("primitive" : Str) ++ ((toString ((n : Nat) : Int) : String) : Str)).length ∧ (("primitive" : Str) ++ ((toString ((n : Nat) : Int) : String) : Str)).length ≤ 12 ∧ wOk (("primitive" : Str) ++ ((toString ((n : Nat) : Int) : String) : Str)).cps.toList = true := by decide +kernel
theorem name_word {x : Str} (h : NameOk x) : WordOk 12 x := by
  rcases h with h | ⟨n, hn, rfl⟩
  · exact ⟨h.1, Nat.le_trans h.2.1 (by omega), h.2.2⟩
  · exact prim_word n hn
theorem nums_vs {K : PySem.W.Frag} {G : Hp} : ∀ {ns : List Nat} {vs : List V}, KeyVs K G (ns.map fun n : Nat => NestedKey.num (n : Int)) vs → vs = vN ns
  | [], _, h => by cases h; rfl
  | n :: ns, _, h => by
    rw [List.map_cons] at h
    cases h with
    | cons h1 h2 =>
      cases h1
      rw [nums_vs h2]
      rfl
theorem keyN_of {K : PySem.W.Frag} {G : Hp} {ns : List Nat} {v : V} (h : KeyV K G (keyN ns) v) : ∃ b, v = .ref b ∧ SqT K G b (vN ns) := by
  unfold keyN at h
  cases h with
  | tup h1 h2 =>
    rw [nums_vs h2] at h1
    exact ⟨_, rfl, h1⟩
theorem knl_at {K : PySem.W.Frag} {w : World} {G : Hp} {mv : List Mv} {κ : Kn} {zs : List Addr} (h : KnL K w G mv κ zs) : ∀ {j : Nat} {q : Mv}, mv[j]? = some q → ∃ x z mi, κ[j]? = some x ∧ z ∈ zs ∧ q = (NestedKey.text x.1, V.str x.1, V.ref z) ∧ G z = some (mxo z w mi) ∧ Mx K G w z mi ∧ Paired RsR mi x.2 := by
  induction h with
  | nil => intro j q h; simp at h
  | @cons mv κ zs x z mi h1 h2 h3 _ ih =>
    intro j q h
    cases j with
    | zero => exact ⟨x, z, mi, rfl, List.mem_cons_self, (Option.some.inj h).symm, h1, h2, h3⟩
    | succ j =>
      obtain ⟨x', z', mi', a1, a2, a3⟩ := ih (j := j) (q := q) (by simpa using h)
      exact ⟨x', z', mi', by simpa using a1, List.mem_cons_of_mem _ a2, a3⟩
theorem rows_of {K : PySem.W.Frag} {G G' : Hp} (e : ∀ {a : Addr} {xs : List V}, SqT K G a xs → SqT K G' a xs) : ∀ {tl : List Addr} {mi : List Mv} {rows : List Rw}, Paired (fun (t : Addr) (q : Mv) => SqT K G' t [q.2.1, q.2.2]) tl mi → Paired RsR mi rows → (∀ q ∈ mi, KeyV K G q.1 q.2.1) → Paired (RowV K G') (tl.map V.ref) rows
  | _, _, _, .nil, .nil, _ => .nil
  | t :: tl, q :: mi, r :: rows, hp, hr, hk => by
    cases hp with
    | cons h1 h2 =>
      cases hr with
      | cons g1 g2 =>
        have kq := hk q List.mem_cons_self
        rw [g1.1] at kq
        obtain ⟨b, eb, hb⟩ := keyN_of kq
        refine .cons ⟨t, b, rfl, ?_, e hb⟩ (rows_of e h2 g2 fun q' hq => hk q' (List.mem_cons_of_mem _ hq))
        rw [← eb, ← g1.2]
        exact h1
theorem sqt_hideL {K : PySem.W.Frag} {H : Hp} {D a : Addr} {ys xs : List V} (hD : H D = some (.lst ys)) (g : SqT K H a xs) : SqT K (hide [D] H) a xs := by
  have go : ∀ {v : HO}, H a = some v → HO.lst ys ≠ v → hide [D] H a = some v := fun {v} h n => by
    rw [hide_off (fun z => by
      rw [List.mem_singleton.mp z, hD] at h
      exact n (Option.some.inj h))]
    exact h
  rcases g with (g | ⟨o, g⟩) | g
  · exact .inl (.inl (go g (fun z => by cases z)))
  · exact .inl (.inr ⟨o, go g (fun z => by cases z)⟩)
  · exact .inr g
theorem TbV.to {K : PySem.W.Frag} {H H' : Hp} {q : Mv} {x : Str × List Rw} (l : ∀ {a : Addr} {xs : List V}, SqL K H a xs → SqL K H' a xs) (t : ∀ {a : Addr} {xs : List V}, SqT K H a xs → SqT K H' a xs) (h : TbV K H q x) : TbV K H' q x := by
  obtain ⟨h1, h2, h3, h4, a, xs, h5, h6, h7⟩ := h
  exact ⟨h1, h2, h3, h4, a, xs, h5, l h6, pairedTo h7 fun _ _ g => RowV.to t g⟩
theorem tbv_keys {K : PySem.W.Frag} {H : Hp} : ∀ {rows : List Mv} {κ : Kn}, Paired (TbV K H) rows κ → rows.map (·.1) = κ.map fun x => NestedKey.text x.1
  | _, _, .nil => rfl
  | _, _, .cons h t => by rw [List.map_cons, List.map_cons, tbv_keys t, h.1]
theorem text_nodup {κ : Kn} (h : (κ.map (·.1)).Nodup) : (κ.map fun x => NestedKey.text x.1).Nodup := by
  have e : (κ.map fun x => NestedKey.text x.1) = (κ.map (·.1)).map NestedKey.text := by rw [List.map_map]; rfl
  rw [e]
  exact List.Pairwise.map (R := (· ≠ ·)) _ (fun a b hn he => hn (by injection he)) h
section
variable {K : PySem.W.Frag} {w : World} {C : Addr} {T : List (Addr × Str)} {a p c as at_ d dt ap kd : Addr} {H H' H0 : Hp} {D : Ends} {y2 y3 y4 y5 y6 y7 y8 y9 y10 y11 y12 y13 y14 y15 y16 y17 y18 : Option V} {qs : List (Str × Nat)} {ks : List NestedKey} {pv : V} {xs : List V} {ts : List Tm} {tb : Tb} {ev : En} {κ κ' : Kn} {zs zs' : List Addr}
theorem kok_tab (N : Nm qs ks) (ok : KOk qs κ) (s : sz κ ≤ 800) {x : Str × List Rw} (hx : x ∈ κ) : WordOk 12 x.1 ∧ TabOk x.2 := by
  obtain ⟨h1, h2, m, h3, h4⟩ := ok.1 x hx
  have := rows_sz hx
  exact ⟨name_word (N.name _ h3), h2, by omega, m, (N.over.q _ h3).1, h4⟩
theorem b8_ok (L : Lg K w p c qs ks pv as xs d ev at_ ts dt tb ap kd κ zs H) (N : Nm qs ks) (E : EvOk ks ev) (s8 : sz κ ≤ 800)
    (h : ∀ (me : Addr) (H' : Hp), Ex H H' → MeanAt K w H' C me (fil κ) → D.nx (sl a p [y2, y3, y4, some (.ref d), y6, y7, y8, y9, some (.ref kd), y11, some (.ref me), some (.str (enD ev).shown), y14, y15, y16, y17, y18]) H') :
    b8 K w C D (sl a p [y2, y3, y4, some (.ref d), y6, y7, y8, y9, some (.ref kd), y11, y12, y13, y14, y15, y16, y17, y18]) H := by
  unfold b8
  obtain ⟨⟨mv, k1, k2, k3⟩, koff, knd⟩ := L.known
  have k2 := k2.mono hide_ex
  have k3 := knl_ex hide_ex k3
  have lκ : mv.length = κ.length := Paired.length (knl_r k3)
  refine ⟨kd, mxo kd w mv, k1, trivial, fun od => ?_⟩
  have uL : UpS K H (upd H kd (.frz od (mxo kd w mv))) := UpS.mx k1
  have fL : (upd H kd (.frz od (mxo kd w mv))) kd = some (.frz od (mxo kd w mv)) := upd_same
  have mL : Mx K (upd H kd (.frz od (mxo kd w mv))) w kd mv := k2.lock k1
  have zL : ∀ z ∈ zs, (upd H kd (.frz od (mxo kd w mv))) z = H z := fun z hz => upd_ne fun e => by
    rw [List.nodup_cons] at knd
    exact knd.1 (by rw [← e]; exact hz)
  have lL : KnL K w (upd H kd (.frz od (mxo kd w mv))) mv κ zs := knl_keep (fun g => uL.t g) k3 zL
  have back : ∀ {H' : Hp}, Ex (upd H kd (.frz od (mxo kd w mv))) H' → Ex H (upd H' kd (mxo kd w mv)) := fun e => unlock_ex e k1
  generalize upd H kd (.frz od (mxo kd w mv)) = HL at uL fL mL zL lL back ⊢
  refine ⟨_, rfl, kd, od, mv, rfl, k2.sys, fL, fun D0 nD => ?_⟩
  have nDk : D0 ≠ kd := (ne_of_none fL nD).symm
  refine lc_mix (d := kd) (o := od) (w := w) (ks := mv) (fun j H' => ∃ (ps : List Addr) (rows : List Mv), H' D0 = some (.lst (ps.map V.ref)) ∧ Paired (fun q (r : Mv) => SqT K (hide [D0] H') q [r.2.1, r.2.2]) ps rows ∧ Paired (TbV K (hide [D0] H')) rows (κ.take j) ∧ Ex HL H')
    ⟨[], [], upd_same, .nil, .nil, Ex.new nD⟩ (fun i H' h => by obtain ⟨_, _, _, _, _, e⟩ := h; exact e _ _ fL) ?_ ?_
  · rintro j q H3 hj ⟨ps, rows, hD, hps, hrows, e3⟩
    have jl := (List.getElem?_eq_some_iff.mp hj).1
    obtain ⟨x, z, mi, hx, hz, rfl, o1, m1, r1⟩ := knl_at lL hj
    have va := vM_at mL.one hj
    refine ⟨rfl, _, rfl, _, rfl, _, rfl, kd, mv, .text x.1, .ref z, rfl, mL.mono e3, .text _, (by simp [NestedKey.depth]), va, z, mi, rfl, m1.mono e3, fun H4 pl tl kp n1 n2 n3 hl hts => ⟨(by show (2 : Nat) ≤ sizeLine; decide), fun t5 n5 => ?_⟩⟩
    have e4 : Ex H3 H4 := kp
    have e5 : Ex H4 (upd H4 t5 (.tup [.str x.1, .ref pl])) := Ex.new n5
    have e35 := e4.trans e5
    have hD5 := e35 _ _ hD
    have lm := k2.len
    have lp : ps.length ≤ 1000 := by
      have a1 := Paired.length hps
      have a2 := Paired.length hrows
      rw [List.length_take] at a2
      omega
    have plD : pl ≠ D0 := (ne_of_none hD n1).symm
    have hide5 : Ex (hide [D0] H3) (hide [D0] (upd H4 t5 (.tup [.str x.1, .ref pl]))) := But.of e35
    have em : (ps ++ [t5]).map V.ref = ps.map V.ref ++ [V.ref t5] := by rw [List.map_append]; rfl
    obtain ⟨wx, tx⟩ := kok_tab N L.kok s8 (List.mem_of_getElem? hx)
    have tk : κ.take (j + 1) = κ.take j ++ [x] := by rw [List.take_add_one, hx]; rfl
    refine ⟨_, hD5, small1000 (by rw [List.length_map]; omega), ps ++ [t5], rows ++ [(.text x.1, .str x.1, .ref pl)], by rw [← em, upd_same], ?_, ?_, (e3.trans e35).mut nD⟩
    · rw [hide_in]
      exact pairApp (pairedTo hps fun _ _ g => Evl.ex_t hide5 g) (.cons (sqt_hideL hD5 (SqT.of upd_same)) .nil)
    · rw [hide_in, tk]
      refine pairApp (pairedTo hrows fun _ _ g => TbV.to (fun g => Evl.ex_l hide5 g) (fun g => Evl.ex_t hide5 g) g) (.cons ⟨rfl, rfl, wx, tx, pl, tl.map V.ref, rfl, SqL.of ?_, ?_⟩ .nil)
      · rw [hide_off (fun y => plD (List.mem_singleton.mp y))]
        exact e5 _ _ hl
      · refine rows_of (G := H3) (fun g => sqt_hideL hD5 (Evl.ex_t e35 g)) (pairedTo hts fun t q g => sqt_hideL hD5 (SqT.of (e5 _ _ g))) r1 fun q hq => KeyV.mono e3 _ _ (m1.key q hq).1
  · rintro H3 ⟨ps, rows, hD, hps, hrows, e3⟩
    rw [lκ, List.take_length] at hrows
    have f3 := e3 _ _ fL
    have uU : UpS K H3 (upd H3 kd (mxo kd w mv)) := UpS.fz f3
    have eU : Ex H (upd H3 kd (mxo kd w mv)) := back e3
    have DU : (upd H3 kd (mxo kd w mv)) D0 = some (.lst (ps.map V.ref)) := by rw [upd_ne nDk]; exact hD
    have psU := pairedTo hps fun q (r : Mv) g => uU.t (Evl.ex_t (hide_ex (S := [D0])) g)
    have rowsU : Paired (TbV K (upd H3 kd (mxo kd w mv))) rows κ := pairedTo hrows fun _ _ g => (TbV.to (fun g => Evl.ex_l hide_ex g) (fun g => Evl.ex_t hide_ex g) g).up uU
    refine ⟨f3, ?_⟩
    generalize upd H3 kd (mxo kd w mv) = HU at eU DU psU rowsU ⊢
    have rk := tbv_keys rowsU
    have rn : (rows.map (·.1)).Nodup := by rw [rk]; exact text_nodup L.kok.2
    have lr : rows.length = κ.length := Paired.length rowsU
    have lm := k2.len
    have hkr : ∀ {G : Hp}, ∀ r ∈ rows, KeyV K G r.1 r.2.1 ∧ r.1.depth ≤ 8 := fun {G} r hr => by
      obtain ⟨x, _, h1, h2, _⟩ := paired_mem rowsU hr
      rw [h1, h2]
      exact ⟨.text _, by simp [NestedKey.depth]⟩
    refine ⟨D0, ps, rows, rfl, SqL.of DU, psU, hkr, by omega, fun dd ndd sdd => ?_⟩
    have em : mergeM [] rows = rows := merge_nodup (acc := []) (by simpa using rn)
    have md := dict_new (K := K) (w := w) (S := []) (by simp) ndd sdd hkr rn (by omega)
    rw [hide_nil] at md
    rw [em] at md ⊢
    have e8 : Ex HU (upd HU dd (mxo dd w rows)) := Ex.new ndd
    have o8 : (upd HU dd (mxo dd w rows)) dd = some (mxo dd w rows) := upd_same
    generalize upd HU dd (mxo dd w rows) = H8 at md e8 o8 ⊢
    intro me dx nme ndx ne
    have e9 : Ex H8 (upd (upd H8 dx (.own me)) me (.ins C dx [])) := (Ex.new ndx).trans (Ex.new (by rw [upd_ne ne.symm]; exact nme))
    refine ⟨me, dx, dd, rows, κ, rfl, upd_same, e9 _ _ o8, md.mono e9, pairedTo rowsU fun _ _ g => g.up (UpS.ex (e8.trans e9)), fun H10 hM keep => ⟨rfl, ?_⟩⟩
    have e10 : Ex H8 H10 := fun b o hb => keep b o (e9 _ _ hb) (ne_of_none hb nme)
    have eH := (eU.trans e8).trans e10
    obtain ⟨s1, s2, s3, s4⟩ := en_shown N E
    refine ⟨_, rfl, d, enD ev, rfl, vat_dr ((L.vals.mono hide_ex).mono eH), s1, s2, s3, (by show (2 : Nat) ≤ sizeLine; decide), fun t nt => ⟨t, _, rfl, SqT.of upd_same, rfl, _, _, rfl, _, _, rfl, rfl, ?_⟩⟩
    exact h me _ (eH.trans (Ex.new nt)) (MeanAt.mono (Ex.new nt) hM)
end
end L2.Vf.K14
/-! A lap of the law: values. -/
namespace L2.Vf.K14
open PySem PySem.Spec PyProof.Rows
open Evl (Ex Ev EvT EvL EvA)
open NdefX LamX
section
variable (K : PySem.W.Frag) (w : World) (C : Addr) (T : List (Addr × Str))
def b9 : TS := tFor (iList K (tOp rCat (tOp rCat (tVar 6) (tVar 9)) (tLc (iList K (tVar 4)) (gName 18) tYes (tTup (tCons (tC (.str "var")) (tCons (tVar 18) tNil))) [18]))) (gName 11)
  (tSeq (tAsg (tCall (spValueOf K w C T) [] E0 (tCons (tVar 12) (tCons (tVar 11) (tCons (tVar 5) tNil)))) (gName 14))
    (tIfS (tOr (tTest (tOp rNe (tVar 14) (tCall (spLawValue K w 7) [] E0 (tCons (tVar 10) (tCons (tVar 11) (tCons (tVar 5) tNil)))))) (tB (tCB (rIsi K) (tCons (tVar 14) (tCons (tC (.ty "bool")) tNil))))) (tRet (tC (.bl false))) tNext))
end
/-- what stands in the lap's second half -/
structure Lb (K : PySem.W.Frag) (w : World) (C : Addr) (T : List (Addr × Str)) (p c : Addr) (qs : List (Str × Nat)) (ks : List NestedKey) (pv : V) (as : Addr) (xs : List V) (d : Addr) (ev : En) (at_ : Addr) (ts : List Tm) (dt : Addr) (tb : Tb) (ap kd : Addr) (κ : Kn) (me : Addr) (H : Hp) : Prop where
  src : Src H p c
  tabs : Tabs T H
  prims : ∃ tps aq, pv = .ref aq ∧ SqL K H aq (tps.map V.ref) ∧ Paired (fun (t : Addr) (q : Str × Nat) => SqT K H t [.str q.1, .int (q.2 : Int)]) tps qs
  list : SqL K H as xs
  keys : KeyVs K H ks xs
  vals : VAt K w H d ev
  terms : TmsAt K H at_ ts
  puts : TmsAt K H ap (ts.map fun t => t.put tb)
  table : ∃ mt, Mx K H w dt mt ∧ TbR K H mt tb
  known : KnV K w H kd κ
  mean : MeanAt K w H C me (fil κ)
section
variable {K : PySem.W.Frag} {w : World} {C : Addr} {T : List (Addr × Str)} {a p c as at_ d dt ap kd me : Addr} {H H' H0 : Hp} {D : Ends} {y2 y3 y4 y5 y6 y7 y8 y9 y10 y11 y12 y13 y14 y15 y16 y17 y18 : Option V} {qs : List (Str × Nat)} {ks : List NestedKey} {pv : V} {xs : List V} {ts : List Tm} {tb : Tb} {ev : En} {κ κ' : Kn} {zs zs' : List Addr}
theorem lb_of (L : Lg K w p c qs ks pv as xs d ev at_ ts dt tb ap kd κ zs H) (hT : Tabs T H) (hM : MeanAt K w H C me (fil κ)) : Lb K w C T p c qs ks pv as xs d ev at_ ts dt tb ap kd κ me H := by
  obtain ⟨⟨hS, ⟨tps, aq, rfl, h1, h2⟩, h3, h4⟩, h5, h6, ⟨mt, t1, t2, t3, t4⟩, h7, k, _, _, _⟩ := L
  exact ⟨hS, hT, ⟨tps, aq, rfl, Evl.ex_l hide_ex h1, pairedTo h2 fun t q g => Evl.ex_t hide_ex g⟩, Evl.ex_l hide_ex h3, KeyVs.to (fun g => Evl.ex_t hide_ex g) _ _ h4, h5.mono hide_ex, h6.mono hide_ex, h7.mono hide_ex, ⟨mt, t3.mono hide_ex, tbR_mono (fun g => Evl.ex_t hide_ex g) t4⟩, k.knv, hM⟩
theorem tms_xn {a1 : Addr} {us : List Tm} (e : ExtN H H') (h : TmsAt K H a1 us) : TmsAt K H' a1 us := by
  obtain ⟨vs, h1, h2⟩ := h
  exact ⟨vs, e _ _ h1 (by intro _ z; cases z), TmVs.to (extN_t e) _ _ h2⟩
theorem Lb.xn (L : Lb K w C T p c qs ks pv as xs d ev at_ ts dt tb ap kd κ me H) (e : ExtN H H') (hT : Tabs T H') : Lb K w C T p c qs ks pv as xs d ev at_ ts dt tb ap kd κ me H' := by
  obtain ⟨hS, _, ⟨tps, aq, rfl, h1, h2⟩, h3, h4, ⟨mv, v1, v2⟩, h6, h7, ⟨mt, t3, t4⟩, ⟨mk, m1, m2⟩, h9⟩ := L
  refine ⟨hS.extN e, hT, ⟨tps, aq, rfl, sql_extN e h1, pairedTo h2 fun t q g => extN_t e g⟩, sql_extN e h3, KeyVs.to (extN_t e) _ _ h4, ⟨mv, extN_mx e v1, v2⟩, tms_xn e h6, tms_xn e h7, ⟨mt, extN_mx e t3, tbR_mono (extN_t e) t4⟩, ⟨mk, extN_mx e m1, pairedTo m2 fun q x g => ?_⟩, extN_mean e h9⟩
  obtain ⟨g1, di, mi, g2, go, g3, g4⟩ := g
  exact ⟨g1, di, mi, g2, e _ _ go (by intro _ z; cases z), extN_mx e g3, g4⟩
theorem Lb.ex (L : Lb K w C T p c qs ks pv as xs d ev at_ ts dt tb ap kd κ me H) (e : Ex H H') : Lb K w C T p c qs ks pv as xs d ev at_ ts dt tb ap kd κ me H' := L.xn (ExtN.of e) (Tabs.ext L.tabs e)
theorem vmap_tm {ks : List NestedKey} : ∀ {n : Nat}, ((ks.take n).map Tm.var).length = (ks.take n).length := by
  intro n
  rw [List.length_map]
theorem b9_ok (L : Lb K w C T p c qs ks pv as xs d ev at_ ts dt tb ap kd κ me H) (N : Nm qs ks) (E : EvOk ks ev) (ok : KOk qs κ) (l2 : ts.length = 2) (hin : ∀ t ∈ ts, TmIn qs ks 4 t) (htb : ∀ r ∈ tb, r.1 ∈ ks ∧ TmIn qs ks 2 r.2)
    (h : ∀ (z11 z14 : Option V) (H' : Hp), Lb K w C T p c qs ks pv as xs d ev at_ ts dt tb ap kd κ me H' → D.nx (sl a p [y2, some pv, some (.ref as), some (.ref d), some (.ref at_), some (.ref dt), y8, some (.ref ap), some (.ref kd), z11, some (.ref me), y13, z14, y15, y16, y17, y18]) H') :
    b9 K w C T D (sl a p [y2, some pv, some (.ref as), some (.ref d), some (.ref at_), some (.ref dt), y8, some (.ref ap), some (.ref kd), y11, some (.ref me), y13, y14, y15, y16, y17, y18]) H := by
  unfold b9
  obtain ⟨vs, v1, v2⟩ := L.terms
  obtain ⟨us, u1, u2⟩ := L.puts
  have lv := tmVs_len v2
  have lu := tmVs_len u2
  rw [List.length_map] at lu
  have lks := keyVs_len L.keys
  have k5 := N.k5
  refine ⟨_, rfl, _, rfl, at_, ap, vs, us, rfl, rfl, v1, u1, by rw [sizeLine_eq]; omega, fun r nr => ?_⟩
  have e1 : Ex H (upd H r (.lst (vs ++ us))) := Ex.new nr
  have L1 := L.ex e1
  have r1 : (upd H r (.lst (vs ++ us))) r = some (.lst (vs ++ us)) := upd_same
  have a1 : TmVs K (upd H r (.lst (vs ++ us))) (ts ++ ts.map fun t => t.put tb) (vs ++ us) := tmVs_app (TmVs.to (fun g => Evl.ex_t e1 g) _ _ v2) (TmVs.to (fun g => Evl.ex_t e1 g) _ _ u2)
  generalize upd H r (.lst (vs ++ us)) = H1 at L1 r1 a1 ⊢
  refine ⟨_, rfl, as, rfl, ⟨_, L1.list⟩, fun D0 nD => ?_⟩
  refine lc_list (K := K) (a := as) (xs := xs) (fun j H' => ∃ ws, H' D0 = some (.lst ws) ∧ TmVs K H' ((ks.take j).map Tm.var) ws ∧ Ex H1 H') ⟨[], upd_same, .nil, Ex.new nD⟩ (fun i H' _ h => by obtain ⟨_, _, _, e⟩ := h; exact Evl.ex_l e L1.list) ?_ ?_
  · rintro j x H2 hj ⟨ws, hD, hws, e2⟩
    have jl := (List.getElem?_eq_some_iff.mp hj).1
    obtain ⟨k, hk⟩ : ∃ k, ks[j]? = some k := ⟨_, List.getElem?_eq_getElem (by omega)⟩
    obtain ⟨x', hx', hkx⟩ := keyVs_get L1.keys hk
    rw [hj] at hx'
    obtain rfl := Option.some.inj hx'
    refine ⟨rfl, _, rfl, (by show (2 : Nat) ≤ sizeLine; decide), fun t nt => ?_⟩
    have e3 : Ex H2 (upd H2 t (.tup [.str "var", x])) := Ex.new nt
    have hD3 := e3 _ _ hD
    have lw := tmVs_len hws
    rw [List.length_map, List.length_take] at lw
    have off : ∀ {b : Addr} {zs : List V}, SqT K (upd H2 t (.tup [.str "var", x])) b zs → SqT K (upd (upd H2 t (.tup [.str "var", x])) D0 (.lst (ws ++ [.ref t]))) b zs := fun g => by
      have z := sqt_off (S := []) (zs := ws ++ [.ref t]) hD3 (by rw [hide_nil]; exact g)
      rwa [hide_nil] at z
    refine ⟨ws, hD3, small1000 (by omega), ws ++ [.ref t], upd_same, ?_, (e2.trans e3).mut nD⟩
    rw [List.take_add_one, hk, List.map_append]
    refine tmVs_app (TmVs.to (fun g => off (Evl.ex_t e3 g)) _ _ hws) (tmVs_one (.var (off (SqT.of upd_same)) (KeyV.to (fun g => off (Evl.ex_t (e2.trans e3) g)) _ _ hkx) (N.over.k k (List.mem_of_getElem? hk)).2.2.1))
  · rintro H2 ⟨ws, hD, hws, e2⟩
    rw [lks, List.take_length] at hws
    have lw := tmVs_len hws
    rw [List.length_map] at lw
    have r2 := e2 _ _ r1
    refine ⟨r, D0, vs ++ us, ws, rfl, rfl, r2, hD, by rw [sizeLine_eq, List.length_append]; omega, fun r3 nr3 => ⟨r3, rfl, ⟨_, SqL.of upd_same⟩, ?_⟩⟩
    have e3 : Ex H2 (upd H2 r3 (.lst ((vs ++ us) ++ ws))) := Ex.new nr3
    have L3 := L1.ex (e2.trans e3)
    have r33 : (upd H2 r3 (.lst ((vs ++ us) ++ ws))) r3 = some (.lst ((vs ++ us) ++ ws)) := upd_same
    have a3 : TmVs K (upd H2 r3 (.lst ((vs ++ us) ++ ws))) ((ts ++ ts.map fun t => t.put tb) ++ ks.map Tm.var) ((vs ++ us) ++ ws) := tmVs_app (TmVs.to (fun g => Evl.ex_t (e2.trans e3) g) _ _ a1) (TmVs.to (fun g => Evl.ex_t e3 g) _ _ hws)
    have ein : ∀ t ∈ (ts ++ ts.map fun t => t.put tb) ++ ks.map Tm.var, TmIn qs ks 6 t := fun t ht => by
      rcases List.mem_append.mp ht with z | z
      · rcases List.mem_append.mp z with z | z
        · exact tmIn_mono t (by omega) (hin t z)
        · obtain ⟨u, hu, rfl⟩ := List.mem_map.mp z
          exact put_in_of (e := 2) (fun r hr => (htb r hr).2) u (hin u hu)
      · obtain ⟨k, hk, rfl⟩ := List.mem_map.mp z
        unfold TmIn
        exact hk
    have q2 : ∀ q ∈ qs, q.2 ≤ 2 := fun q hq => (N.over.q q hq).1
    generalize upd H2 r3 (.lst ((vs ++ us) ++ ws)) = H3 at L3 r33 a3 ⊢
    refine for_list (K := K) (a := r3) (xs := (vs ++ us) ++ ws) (fun j σ H' => ∃ (z11 z14 : Option V), σ = sl a p [y2, some pv, some (.ref as), some (.ref d), some (.ref at_), some (.ref dt), y8, some (.ref ap), some (.ref kd), z11, some (.ref me), y13, z14, y15, y16, y17, y18] ∧ Lb K w C T p c qs ks pv as xs d ev at_ ts dt tb ap kd κ me H' ∧
      H' r3 = some (.lst ((vs ++ us) ++ ws)) ∧ TmVs K H' ((ts ++ ts.map fun t => t.put tb) ++ ks.map Tm.var) ((vs ++ us) ++ ws)) ⟨_, _, rfl, L3, r33, a3⟩ (fun i σ H' _ h => by obtain ⟨_, _, _, _, h, _⟩ := h; exact SqL.of h) ?_ ?_
    · rintro j v σ H4 hj ⟨z11, z14, rfl, L4, r4, a4⟩
      obtain ⟨t, htj, htv⟩ := tmVs_take a4 hj
      have tin := ein t (List.mem_of_getElem? htj)
      have pl := preN_in q2 t tin
      have e6 : 2 * 2 ^ 6 = 128 := rfl
      have dp := tmIn_deep t tin
      obtain ⟨mv, m1, m2⟩ := L4.vals
      have hv : ∀ k, Tm.var k ∈ t.pre → (eLook ev k).isSome = true := fun k hk => eLook_some (by rw [E.1]; exact var_in t tin hk)
      have vf : t.vl (fil κ) (eLook ev) = t.vl κ (eLook ev) := vl_fil ok.2 (fun x hx => (ok.1 x hx).2.1) t
      refine ⟨_, rfl, _, rfl, _, rfl, me, d, v, t, mv, fil κ, eLook ev, rfl, L4.mean, htv, by omega, m1, vl_en m2, hv, L4.tabs, fun H5 x5 T5 => ?_⟩
      have L5 := L4.xn x5 T5
      obtain ⟨mv5, n1, n2⟩ := L5.vals
      refine ⟨_, rfl, _, rfl, _, rfl, _, rfl, kd, d, v, t, mv5, κ, eLook ev, rfl, L5.known, TmV.to (extN_t x5) _ _ htv, n1, vl_en n2, hv, by omega, fun H6 e6' => ⟨rfl, _, rfl, ?_⟩⟩
      refine ite2 (fun z => ?_) (fun _ => ?_)
      · rw [vf, decide_eq_true rfl] at z
        cases z
      refine ⟨_, rfl, _, _, _, _, false, rfl, .ty _, .base (.int _), kit_ty (by decide +kernel), _, rfl, ite2 (fun z => by cases z) (fun _ => ?_)⟩
      dsimp only [tNext]
      exact ⟨_, _, rfl, L5.ex e6', e6' _ _ (x5 _ _ r4 (by intro _ z; cases z)), TmVs.to (fun g => Evl.ex_t e6' (extN_t x5 g)) _ _ a4⟩
    · rintro σ H4 ⟨z11, z14, rfl, L4, r4, a4⟩
      exact h z11 z14 H4 L4
end
end L2.Vf.K14
/-! A lap of the law: late values, and the end. -/
namespace L2.Vf.K14
open PySem PySem.Spec PyProof.Rows
open Evl (Ex Ev EvT EvL EvA)
open NdefX LamX
section
variable (K : PySem.W.Frag) (w : World) (C : Addr) (T : List (Addr × Str))
def b10 : TS := tAsg (tCB (rDictM K w) (tCons (tLc (iList K (tVar 4)) (gName 18) tYes (tTup (tCons (tVar 18) (tCons (tIf (tTest (tOp (rMIn K w) (tVar 18) (tVar 7))) (tCall (spValueOf K w C T) [] E0 (tCons (tVar 12) (tCons (tMGet K w (tVar 7) (tVar 18)) (tCons (tVar 5) tNil)))) (tMGet K w (tVar 5) (tVar 18))) tNil))) [18]) tNil)) (gName 15)
def b11 : TS := tFor (iList K (tVar 6)) (gName 11) (tIfS (tTest (tOp rNe (tCall (spValueOf K w C T) [] E0 (tCons (tVar 12) (tCons (tCall (spPutIn K w T) [] E0 (tCons (tVar 11) (tCons (tVar 7) tNil))) (tCons (tVar 5) tNil)))) (tCall (spValueOf K w C T) [] E0 (tCons (tVar 12) (tCons (tVar 11) (tCons (tVar 15) tNil)))))) (tRet (tC (.bl false))) tNext)
def b12 : TS := tAsg (tOp (rIxL K) (tVar 3) (tC (.int 0))) (gTup K 2 (gCons (gName 16) (gCons (gName 17) gNil)))
def b13 : TS := tIfS (tOr (tTest (tOp rNe (tCB (rReprM K w) (tCons (tVar 5) tNil)) (tVar 13))) (tTest (tOp rNe (tCall (spValueOf K w C T) [] E0 (tCons (tMake C (spMInit K w C) [] E0 (tCons (tMNew w) tNil))
  (tCons (tTup (tCons (tC (.str "of")) (tCons (tVar 16) (tCons (tCB (rTupOf K) (tCons (tLc (iRng1 (tCons (tVar 17) tNil)) (gName 8) tYes (tOp (rIxL K) (tVar 6) (tC (.int 0))) [8]) tNil)) tNil)))) (tCons (tVar 5) tNil)))) (tC (.int 0))))) (tRet (tC (.bl false))) tNext
end
/-- what a variable comes to, late -/
def lateX (tb : Tb) (κ : Kn) (ev : En) (k : NestedKey) : Nat := ((Tm.var k).put tb).vl κ (eLook ev)
def lateE (ks : List NestedKey) (tb : Tb) (κ : Kn) (ev : En) : En := ks.map fun k => (k, lateX tb κ ev k)
theorem late_look {tb : Tb} {κ : Kn} {ev : En} : ∀ {ks : List NestedKey} {k : NestedKey}, k ∈ ks → eLook (lateE ks tb κ ev) k = some (lateX tb κ ev k)
  | [], _, h => by cases h
  | j :: ks, k, h => by
    unfold eLook lateE
    rw [List.map_cons, List.find?_cons]
    by_cases e : j = k
    · rw [decide_eq_true e, e]
      rfl
    · rw [decide_eq_false e]
      rcases List.mem_cons.mp h with z | z
      · exact absurd z.symm e
      · exact late_look z
mutual
theorem late_vl {ks : List NestedKey} {tb : Tb} {κ : Kn} {ev : En} : ∀ (t : Tm), (∀ k, Tm.var k ∈ t.pre → k ∈ ks) → t.vl κ (eLook (lateE ks tb κ ev)) = (t.put tb).vl κ (eLook ev)
  | .var k, h => by
    show (eLook (lateE ks tb κ ev) k).getD 0 = _
    rw [late_look (h k (List.mem_singleton.mpr rfl))]
    rfl
  | .of x ts, h => by
    show kLook κ x (Tm.vls κ (eLook (lateE ks tb κ ev)) ts) = kLook κ x (Tm.vls κ (eLook ev) (Tm.puts tb ts))
    rw [late_vls ts fun k hk => h k (List.mem_cons_of_mem _ hk)]
theorem late_vls {ks : List NestedKey} {tb : Tb} {κ : Kn} {ev : En} : ∀ (ts : List Tm), (∀ k, Tm.var k ∈ Tm.pres ts → k ∈ ks) → Tm.vls κ (eLook (lateE ks tb κ ev)) ts = Tm.vls κ (eLook ev) (Tm.puts tb ts)
  | [], _ => rfl
  | t :: ts, h => by
    show t.vl κ (eLook (lateE ks tb κ ev)) :: Tm.vls κ (eLook (lateE ks tb κ ev)) ts = (t.put tb).vl κ (eLook ev) :: Tm.vls κ (eLook ev) (Tm.puts tb ts)
    rw [late_vl t fun k hk => h k (List.mem_append_left _ hk), late_vls ts fun k hk => h k (List.mem_append_right _ hk)]
end
theorem tLook_mem : ∀ {tb : Tb} {k : NestedKey} {t : Tm}, tLook tb k = some t → ∃ r ∈ tb, r.2 = t
  | [], _, _, h => by cases h
  | r :: tb, k, t, h => by
    rw [tLook_cons] at h
    split at h
    · exact ⟨r, List.mem_cons_self, Option.some.inj h⟩
    · obtain ⟨q, h1, h2⟩ := tLook_mem h
      exact ⟨q, List.mem_cons_of_mem _ h1, h2⟩
theorem sqt_l {K : PySem.W.Frag} {H : Hp} {D a : Addr} {ys zs xs : List V} (h : H D = some (.lst ys)) (g : SqT K H a xs) : SqT K (upd H D (.lst zs)) a xs := by
  have z := sqt_off (S := []) (zs := zs) h (by rw [hide_nil]; exact g)
  rwa [hide_nil] at z
section
variable {K : PySem.W.Frag} {w : World} {C : Addr} {T : List (Addr × Str)} {a p c as at_ d dt ap kd me dl : Addr} {H H' H0 : Hp} {D : Ends} {y2 y3 y4 y5 y6 y7 y8 y9 y10 y11 y12 y13 y14 y15 y16 y17 y18 : Option V} {qs : List (Str × Nat)} {ks : List NestedKey} {pv : V} {xs : List V} {ts : List Tm} {tb : Tb} {ev : En} {κ κ' : Kn} {zs zs' : List Addr}
theorem Lb.off (L : Lb K w C T p c qs ks pv as xs d ev at_ ts dt tb ap kd κ me H0) (x : ExtN H0 H') (hT : Tabs T H') : Lb K w C T p c qs ks pv as xs d ev at_ ts dt tb ap kd κ me H' := L.xn x hT
theorem b10_ok (L : Lb K w C T p c qs ks pv as xs d ev at_ ts dt tb ap kd κ me H) (N : Nm qs ks) (E : EvOk ks ev) (ok : KOk qs κ) (htb : ∀ r ∈ tb, r.1 ∈ ks ∧ TmIn qs ks 2 r.2)
    (h : ∀ (dl : Addr) (H' : Hp), Lb K w C T p c qs ks pv as xs d ev at_ ts dt tb ap kd κ me H' → VAt K w H' dl (lateE ks tb κ ev) → D.nx (sl a p [y2, some pv, some (.ref as), some (.ref d), some (.ref at_), some (.ref dt), y8, some (.ref ap), some (.ref kd), y11, some (.ref me), y13, y14, some (.ref dl), y16, y17, y18]) H') :
    b10 K w C T D (sl a p [y2, some pv, some (.ref as), some (.ref d), some (.ref at_), some (.ref dt), y8, some (.ref ap), some (.ref kd), y11, some (.ref me), y13, y14, y15, y16, y17, y18]) H := by
  unfold b10
  have lks := keyVs_len L.keys
  have k5 := N.k5
  have q2 : ∀ q ∈ qs, q.2 ≤ 2 := fun q hq => (N.over.q q hq).1
  refine ⟨_, rfl, as, rfl, ⟨_, L.list⟩, fun D0 nD => ?_⟩
  refine lc_list (K := K) (a := as) (xs := xs) (fun j H' => ∃ (ps : List Addr) (rows : List Mv), H' D0 = some (.lst (ps.map V.ref)) ∧ Paired (fun q (r : Mv) => SqT K H' q [r.2.1, r.2.2]) ps rows ∧ (∀ r ∈ rows, KeyV K H' r.1 r.2.1 ∧ r.1.depth ≤ 8) ∧ Paired VlR rows (lateE (ks.take j) tb κ ev) ∧ rows.map (·.1) = ks.take j ∧ Tabs T H' ∧ ExtN H H')
    ⟨[], [], upd_same, .nil, (fun r z => by cases z), .nil, rfl, Tabs.ext L.tabs (Ex.new nD), ExtN.of (Ex.new nD)⟩ (fun i H' _ h => by obtain ⟨_, _, _, _, _, _, _, _, x⟩ := h; exact sql_extN x L.list) ?_ ?_
  · rintro j x H1 hj ⟨ps, rows, hD, hps, hkr, hvl, hrk, T1, x1⟩
    have L1 := L.xn x1 T1
    have jl := (List.getElem?_eq_some_iff.mp hj).1
    obtain ⟨k, hk⟩ : ∃ k, ks[j]? = some k := ⟨_, List.getElem?_eq_getElem (by omega)⟩
    obtain ⟨x', hx', hkx⟩ := keyVs_get L1.keys hk
    rw [hj] at hx'
    obtain rfl := Option.some.inj hx'
    have hkm := List.mem_of_getElem? hk
    have k8 := (N.over.k k hkm).2.2.1
    obtain ⟨mt, t1, t2⟩ := L1.table
    obtain ⟨mv, m1, m2⟩ := L1.vals
    -- a pair is made and laid into the list
    have put : ∀ (H5 : Hp), ExtN H1 H5 → Tabs T H5 → ∀ t5, H5 t5 = none → ∃ acc, (upd H5 t5 (.tup [x, .int (lateX tb κ ev k : Nat)])) D0 = some (.lst acc) ∧ acc.length < sizeLine ∧ ∃ (ps : List Addr) (rows : List Mv), (upd (upd H5 t5 (.tup [x, .int (lateX tb κ ev k : Nat)])) D0 (.lst (acc ++ [.ref t5]))) D0 = some (.lst (ps.map V.ref)) ∧ Paired (fun q (r : Mv) => SqT K (upd (upd H5 t5 (.tup [x, .int (lateX tb κ ev k : Nat)])) D0 (.lst (acc ++ [.ref t5]))) q [r.2.1, r.2.2]) ps rows ∧
        (∀ r ∈ rows, KeyV K (upd (upd H5 t5 (.tup [x, .int (lateX tb κ ev k : Nat)])) D0 (.lst (acc ++ [.ref t5]))) r.1 r.2.1 ∧ r.1.depth ≤ 8) ∧ Paired VlR rows (lateE (ks.take (j + 1)) tb κ ev) ∧ rows.map (·.1) = ks.take (j + 1) ∧ Tabs T (upd (upd H5 t5 (.tup [x, .int (lateX tb κ ev k : Nat)])) D0 (.lst (acc ++ [.ref t5]))) ∧ ExtN H (upd (upd H5 t5 (.tup [x, .int (lateX tb κ ev k : Nat)])) D0 (.lst (acc ++ [.ref t5]))) := by
      intro H5 x5 T5 t5 n5
      have e6 : Ex H5 (upd H5 t5 (.tup [x, .int (lateX tb κ ev k : Nat)])) := Ex.new n5
      have x6 : ExtN H1 (upd H5 t5 (.tup [x, .int (lateX tb κ ev k : Nat)])) := x5.trans (ExtN.of e6)
      have hD6 : (upd H5 t5 (.tup [x, .int (lateX tb κ ev k : Nat)])) D0 = some (.lst (ps.map V.ref)) := x6 _ _ hD (by intro _ z; cases z)
      have lp : ps.length = j := by
        have := Paired.length hps
        have e := congrArg List.length hrk
        rw [List.length_map, List.length_take] at e
        omega
      have tk : ks.take (j + 1) = ks.take j ++ [k] := by rw [List.take_add_one, hk]; rfl
      have em : (ps ++ [t5]).map V.ref = ps.map V.ref ++ [V.ref t5] := by rw [List.map_append]; rfl
      have up : ∀ {b : Addr} {zs : List V}, SqT K H1 b zs → SqT K (upd (upd H5 t5 (.tup [x, .int (lateX tb κ ev k : Nat)])) D0 (.lst (ps.map V.ref ++ [.ref t5]))) b zs := fun g => sqt_l hD6 (extN_t x6 g)
      refine ⟨ps.map V.ref, hD6, small1000 (by rw [List.length_map]; omega), ps ++ [t5], rows ++ [(k, x, .int (lateX tb κ ev k : Nat))], by rw [em, upd_same], pairApp (pairedTo hps fun _ _ g => up g) (.cons (sqt_l hD6 (SqT.of upd_same)) .nil), fun r hr => ?_, ?_, ?_, ?_, ?_⟩
      · rcases List.mem_append.mp hr with z | z
        · exact ⟨KeyV.to up _ _ (hkr r z).1, (hkr r z).2⟩
        · rw [List.mem_singleton.mp z]
          exact ⟨KeyV.to up _ _ hkx, k8⟩
      · rw [tk]
        unfold lateE at hvl ⊢
        rw [List.map_append]
        exact pairApp hvl (.cons ⟨rfl, rfl⟩ .nil)
      · rw [List.map_append, hrk, tk]
        rfl
      · refine L2.Vf.N.tabs_but (S := [D0]) ?_ (Tabs.ext T5 e6) ?_ ?_
        · exact but_upT But.refl
        · intro q hq z
          obtain ⟨ps', g, _⟩ := Tabs.ext T5 e6 q hq
          rw [List.mem_singleton.mp z, hD6] at g
          cases g
        · intro c' x' g z
          rw [List.mem_singleton.mp z, hD6] at g
          cases g
      · intro b o hb n
        have nb : b ≠ D0 := ne_of_none hb nD
        rw [upd_ne nb]
        exact (x1.trans x6) b o hb n
    refine ⟨rfl, _, rfl, _, rfl, _, rfl, dt, mt, k, rfl, t1, hkx, k8, _, rfl, ?_⟩
    rcases tbR_look t2 k with ⟨g1, g2⟩ | ⟨v', t', g1, g2, g3⟩
    · rw [g1]
      refine ite2 (fun z => by cases z) (fun _ => ?_)
      have hs := eLook_some (ev := ev) (k := k) (by rw [E.1]; exact hkm)
      have he := vl_en m2 k
      cases hr : eLook ev k with
      | none =>
        rw [hr] at hs
        cases hs
      | some n =>
        rw [hr] at he
        have lx : lateX tb κ ev k = n := by
          unfold lateX Tm.put
          rw [g2]
          show (eLook ev k).getD 0 = n
          rw [hr]
          rfl
        refine ⟨_, rfl, _, rfl, d, mv, k, _, rfl, m1, hkx, k8, he, (by show (2 : Nat) ≤ sizeLine; decide), fun t5 n5 => ?_⟩
        have z := put H1 (ExtN.refl H1) T1 t5 n5
        rw [lx] at z
        exact z
    · rw [g1]
      refine ite2 (fun _ => ?_) (fun z => (z rfl).elim)
      obtain ⟨r0, hr0, er0⟩ := tLook_mem g2
      have tin : TmIn qs ks 2 t' := by rw [← er0]; exact (htb r0 hr0).2
      have pl := preN_in q2 t' tin
      have e2 : 2 * 2 ^ 2 = 8 := rfl
      have lx : lateX tb κ ev k = t'.vl (fil κ) (eLook ev) := by
        unfold lateX Tm.put
        rw [g2, vl_fil ok.2 (fun x hx => (ok.1 x hx).2.1)]
        rfl
      refine ⟨_, rfl, _, rfl, _, rfl, dt, mt, k, v', rfl, t1, hkx, k8, g1, _, rfl, me, d, v', t', mv, fil κ, eLook ev, rfl, L1.mean, g3, by omega, m1, vl_en m2, (fun j hj => eLook_some (by rw [E.1]; exact var_in t' tin hj)), T1, fun H5 x5 T5 => ⟨(by show (2 : Nat) ≤ sizeLine; decide), fun t5 n5 => ?_⟩⟩
      have z := put H5 x5 T5 t5 n5
      rw [lx] at z
      exact z
  · rintro H1 ⟨ps, rows, hD, hps, hkr, hvl, hrk, T1, x1⟩
    have L1 := L.xn x1 T1
    rw [lks, List.take_length] at hvl hrk
    have lr : rows.length = 5 := by
      have e := congrArg List.length hrk
      rw [List.length_map] at e
      omega
    refine ⟨D0, ps, rows, rfl, SqL.of hD, hps, hkr, by omega, fun dl nd ns => ?_⟩
    have m := dict_new (K := K) (w := w) (S := []) (H := H1) (by simp) nd ns (by rw [hide_nil]; exact hkr) (by rw [hrk]; exact N.kn) (by omega)
    rw [hide_nil] at m
    exact h dl _ (L1.ex (Ex.new nd)) ⟨rows, m, hvl⟩
theorem b11_ok (L : Lb K w C T p c qs ks pv as xs d ev at_ ts dt tb ap kd κ me H) (N : Nm qs ks) (E : EvOk ks ev) (ok : KOk qs κ) (l2 : ts.length = 2) (hin : ∀ t ∈ ts, TmIn qs ks 4 t) (htb : ∀ r ∈ tb, r.1 ∈ ks ∧ TmIn qs ks 2 r.2) (hl : VAt K w H dl (lateE ks tb κ ev))
    (h : ∀ (z11 : Option V) (H' : Hp), Lb K w C T p c qs ks pv as xs d ev at_ ts dt tb ap kd κ me H' → D.nx (sl a p [y2, some pv, some (.ref as), some (.ref d), some (.ref at_), some (.ref dt), y8, some (.ref ap), some (.ref kd), z11, some (.ref me), y13, y14, some (.ref dl), y16, y17, y18]) H') :
    b11 K w C T D (sl a p [y2, some pv, some (.ref as), some (.ref d), some (.ref at_), some (.ref dt), y8, some (.ref ap), some (.ref kd), y11, some (.ref me), y13, y14, some (.ref dl), y16, y17, y18]) H := by
  unfold b11
  have q2 : ∀ q ∈ qs, q.2 ≤ 2 := fun q hq => (N.over.q q hq).1
  have nd := fun x hx => (ok.1 x hx).2.1
  obtain ⟨vs, v1, v2⟩ := L.terms
  refine ⟨_, rfl, at_, rfl, ⟨_, SqL.of v1⟩, ?_⟩
  refine for_list (K := K) (a := at_) (xs := vs) (fun j σ H' => ∃ (z11 : Option V), σ = sl a p [y2, some pv, some (.ref as), some (.ref d), some (.ref at_), some (.ref dt), y8, some (.ref ap), some (.ref kd), z11, some (.ref me), y13, y14, some (.ref dl), y16, y17, y18] ∧ Lb K w C T p c qs ks pv as xs d ev at_ ts dt tb ap kd κ me H' ∧ VAt K w H' dl (lateE ks tb κ ev) ∧ H' at_ = some (.lst vs) ∧ TmVs K H' ts vs)
    ⟨_, rfl, L, hl, v1, v2⟩ (fun i σ H' _ h => by obtain ⟨_, _, _, _, h, _⟩ := h; exact SqL.of h) ?_ ?_
  · rintro j v σ H1 hj ⟨z11, rfl, L1, hl1, w1, w2⟩
    obtain ⟨t, htj, htv⟩ := tmVs_take w2 hj
    have tin := hin t (List.mem_of_getElem? htj)
    have pl := preN_in q2 t tin
    have e4 : 2 * 2 ^ 4 = 32 := rfl
    have pin : TmIn qs ks 6 (t.put tb) := put_in_of (e := 2) (fun r hr => (htb r hr).2) t tin
    have pl2 := preN_in q2 _ pin
    have e6 : 2 * 2 ^ 6 = 128 := rfl
    obtain ⟨mt, t1, t2⟩ := L1.table
    refine ⟨_, rfl, _, rfl, _, rfl, t, v, dt, mt, tb, rfl, htv, by omega, t1, t2, L1.tabs, fun u H2 hu x2 T2 => ?_⟩
    have L2 := L1.xn x2 T2
    obtain ⟨mv2, m1, m2⟩ := L2.vals
    refine ⟨_, rfl, me, d, u, t.put tb, mv2, fil κ, eLook ev, rfl, L2.mean, hu, by omega, m1, vl_en m2, (fun k hk => eLook_some (by rw [E.1]; exact var_in _ pin hk)), T2, fun H3 x3 T3 => ?_⟩
    have L3 := L2.xn x3 T3
    have x13 := x2.trans x3
    obtain ⟨ml, n1, n2⟩ := hl1
    refine ⟨_, rfl, _, rfl, _, rfl, me, dl, v, t, ml, fil κ, eLook (lateE ks tb κ ev), rfl, L3.mean, TmV.to (extN_t x13) _ _ htv, by omega, extN_mx x13 n1, vl_en n2, (fun k hk => ?_), T3, fun H4 x4 T4 => ⟨rfl, _, rfl, ite2 (fun z => ?_) (fun _ => ?_)⟩⟩
    · rw [late_look (var_in t tin hk)]
      rfl
    · rw [vl_fil ok.2 nd, vl_fil ok.2 nd, late_vl t (fun k hk => var_in t tin hk), decide_eq_true rfl] at z
      cases z
    · dsimp only [tNext]
      have x14 := x13.trans x4
      exact ⟨_, rfl, L3.xn x4 T4, ⟨ml, extN_mx x14 n1, n2⟩, x14 _ _ w1 (by intro _ z; cases z), TmVs.to (extN_t x14) _ _ w2⟩
  · rintro σ H1 ⟨z11, rfl, L1, _⟩
    exact h z11 H1 L1
theorem b12_ok (L : Lb K w C T p c qs ks pv as xs d ev at_ ts dt tb ap kd κ me H) (N : Nm qs ks) (h : ∀ (q : Str × Nat), q ∈ qs → D.nx (sl a p [y2, some pv, y4, y5, y6, y7, y8, y9, y10, y11, y12, y13, y14, y15, some (.str q.1), some (.int (q.2 : Int)), y18]) H) :
    b12 K D (sl a p [y2, some pv, y4, y5, y6, y7, y8, y9, y10, y11, y12, y13, y14, y15, y16, y17, y18]) H := by
  unfold b12
  obtain ⟨tps, aq, rfl, h1, h2⟩ := L.prims
  have q3 := N.q3
  have lp : tps.length = qs.length := Paired.length h2
  obtain ⟨t0, ht0⟩ : ∃ t, tps[0]? = some t := ⟨_, List.getElem?_eq_getElem (by omega)⟩
  obtain ⟨q, hq, hrow⟩ := pair_at h2 ht0
  have h0 : (tps.map V.ref)[0]? = some (.ref t0) := by rw [List.getElem?_map, ht0]; rfl
  exact ⟨_, rfl, aq, _, 0, _, rfl, rfl, h1, atI_nat h0, t0, _, rfl, hrow, rfl, _, _, rfl, _, _, rfl, rfl, h q (List.mem_of_getElem? hq)⟩
end
end L2.Vf.K14
/-! A lap of the law, whole. -/
namespace L2.Vf.K14
open PySem PySem.Spec PyProof.Rows
open Evl (Ex Ev EvT EvL EvA)
open NdefX LamX
theorem tms_rep {qs : List (Str × Nat)} {ks : List NestedKey} {d : Nat} {t : Tm} (h : TmIn qs ks d t) : ∀ n, TmsIn qs ks d (List.replicate n t)
  | 0 => by
    show TmsIn qs ks d []
    unfold TmsIn
    trivial
  | n + 1 => by
    show TmsIn qs ks d (t :: List.replicate n t)
    unfold TmsIn
    exact ⟨h, tms_rep h n⟩
theorem tmvs_rep {K : PySem.W.Frag} {G : Hp} {t : Tm} {v : V} (h : TmV K G t v) : ∀ n, TmVs K G (List.replicate n t) (List.replicate n v)
  | 0 => .nil
  | n + 1 => .cons h (tmvs_rep h n)
def lapT (K : PySem.W.Frag) (w : World) (C : Addr) (T : List (Addr × Str)) : TS := tSeq (b1 K) (tSeq (b2 K w) (tSeq (b3 K) (tSeq (b4 w) (tSeq (b5 K w) (tSeq (b6 K w) (tSeq (b7 K w) (tSeq (b8 K w C) (tSeq (b9 K w C T) (tSeq (b10 K w C T) (tSeq (b11 K w C T) (tSeq (b12 K) (b13 K w C T))))))))))))
section
variable {K : PySem.W.Frag} {w : World} {C : Addr} {T : List (Addr × Str)} {a p c as at_ d dt ap kd me dl : Addr} {H H' H0 : Hp} {D : Ends} {y2 y3 y4 y5 y6 y7 y8 y9 y10 y11 y12 y13 y14 y15 y16 y17 y18 : Option V} {qs : List (Str × Nat)} {ks : List NestedKey} {pv : V} {xs : List V} {ts : List Tm} {tb : Tb} {ev : En} {κ κ' : Kn} {zs zs' : List Addr}
theorem b13_ok {q : Str × Nat} (L : Lb K w C T p c qs ks pv as xs d ev at_ ts dt tb ap kd κ me H) (N : Nm qs ks) (E : EvOk ks ev) (l2 : ts.length = 2) (hin : ∀ t ∈ ts, TmIn qs ks 4 t) (hq : q ∈ qs)
    (h : ∀ (H' : Hp), Src H' p c → Tabs T H' → D.nx (sl a p [y2, y3, y4, some (.ref d), some (.ref at_), y7, y8, y9, y10, y11, y12, some (.str (enD ev).shown), y14, y15, some (.str q.1), some (.int (q.2 : Int)), y18]) H') :
    b13 K w C T D (sl a p [y2, y3, y4, some (.ref d), some (.ref at_), y7, y8, y9, y10, y11, y12, some (.str (enD ev).shown), y14, y15, some (.str q.1), some (.int (q.2 : Int)), y18]) H := by
  unfold b13
  obtain ⟨s1, s2, s3, s4⟩ := en_shown N E
  have q2 : ∀ q ∈ qs, q.2 ≤ 2 := fun q hq => (N.over.q q hq).1
  have c2 := q2 q hq
  obtain ⟨vs, v1, v2⟩ := L.terms
  have lv := tmVs_len v2
  obtain ⟨v0, hv0⟩ : ∃ v, vs[0]? = some v := ⟨_, List.getElem?_eq_getElem (by omega)⟩
  obtain ⟨t0, ht0, htv0⟩ := tmVs_take v2 hv0
  have tin0 := hin t0 (List.mem_of_getElem? ht0)
  have tinq : TmIn qs ks 5 (.of q.1 (List.replicate q.2 t0)) := by
    unfold TmIn
    rw [List.length_replicate]
    exact ⟨hq, tms_rep tin0 q.2⟩
  have pl := preN_in q2 _ tinq
  have e5 : 2 * 2 ^ 5 = 64 := rfl
  refine ⟨_, rfl, d, enD ev, rfl, vat_dr L.vals, s1, s2, s3, _, rfl, rfl, _, rfl, ite2 (fun z => ?_) (fun _ => ?_)⟩
  · rw [decide_eq_true rfl] at z
    cases z
  intro dd ndd sdd
  have e1 : Ex H (upd H dd (mxo dd w [])) := Ex.new ndd
  have o1 : (upd H dd (mxo dd w [])) dd = some (mxo dd w []) := upd_same
  have md := Mx.new (K := K) (H := H) (w := w) sdd
  generalize upd H dd (mxo dd w []) = H1 at e1 o1 md ⊢
  intro me2 dx nme ndx ne
  have e9 : Ex H1 (upd (upd H1 dx (.own me2)) me2 (.ins C dx [])) := (Ex.new ndx).trans (Ex.new (by rw [upd_ne ne.symm]; exact nme))
  refine ⟨me2, dx, dd, [], [], rfl, upd_same, e9 _ _ o1, md.mono e9, .nil, fun H3 hM keep => ⟨rfl, ?_⟩⟩
  have e3 : Ex H H3 := e1.trans fun b o hb => keep b o (e9 _ _ hb) (ne_of_none hb nme)
  refine ⟨_, rfl, _, rfl, _, rfl, (by omega), (by omega), fun D0 nD => ?_⟩
  refine lc_range (lo := 0) (n := (q.2 : Int).toNat) (fun j H' => H' D0 = some (.lst (List.replicate j v0)) ∧ Ex H3 H') ⟨upd_same, Ex.new nD⟩ ?_ ?_
  · rintro j H4 hj ⟨hD, e4⟩
    refine ⟨rfl, _, rfl, at_, vs, 0, v0, rfl, rfl, SqL.of ((e3.trans e4) _ _ v1), atI_nat hv0, ?_⟩
    exact ⟨_, hD, small1000 (by rw [List.length_replicate]; omega), by rw [upd_same, List.replicate_succ'], e4.mut nD⟩
  · rintro H4 ⟨hD, e4⟩
    have en : (q.2 : Int).toNat = q.2 := by omega
    rw [en] at hD
    refine ⟨D0, _, rfl, .inl ⟨SqL.of hD, fun t1 n1 => ⟨(by show (3 : Nat) ≤ sizeLine; decide), fun t2 n2 => ?_⟩⟩⟩
    have e6 : Ex H4 (upd (upd H4 t1 (.tup (List.replicate q.2 v0))) t2 (.tup [.str "of", .str q.1, .ref t1])) := (Ex.new n1).trans (Ex.new n2)
    have eA := (e3.trans e4).trans e6
    have LA := L.ex eA
    obtain ⟨mv, m1, m2⟩ := LA.vals
    have htm : TmV K (upd (upd H4 t1 (.tup (List.replicate q.2 v0))) t2 (.tup [.str "of", .str q.1, .ref t1])) (.of q.1 (List.replicate q.2 t0)) (.ref t2) :=
      .of (SqT.of upd_same) (Evl.ex_t (Ex.new n2) (SqT.of upd_same)) (tmvs_rep (TmV.to (fun g => Evl.ex_t eA g) _ _ htv0) q.2) (by rw [List.length_replicate]; omega)
    refine ⟨_, rfl, me2, d, .ref t2, .of q.1 (List.replicate q.2 t0), mv, fil [], eLook ev, rfl, MeanAt.mono (e4.trans e6) hM, htm, by omega, m1, vl_en m2, (fun k hk => eLook_some (by rw [E.1]; exact var_in _ tinq hk)), LA.tabs, fun H7 x7 T7 => ⟨rfl, _, rfl, ite2 (fun z => ?_) (fun _ => ?_)⟩⟩
    · have : V.int (((Tm.of q.1 (List.replicate q.2 t0)).vl (fil []) (eLook ev) : Nat) : Int) = V.int 0 := rfl
      rw [this, decide_eq_true rfl] at z
      cases z
    · dsimp only [tNext]
      exact h H7 (LA.xn x7 T7).src T7
theorem lap_ok (S : Src H p c) (T0 : Tabs T H) (h : ∀ (z2 z3 z4 z5 z6 z7 z8 z9 z10 z11 z12 z13 z14 z15 z16 z17 z18 : Option V) (H' : Hp), Src H' p c → Tabs T H' → D.nx (sl a p [z2, z3, z4, z5, z6, z7, z8, z9, z10, z11, z12, z13, z14, z15, z16, z17, z18]) H') :
    lapT K w C T D (sl a p [y2, y3, y4, y5, y6, y7, y8, y9, y10, y11, y12, y13, y14, y15, y16, y17, y18]) H := by
  unfold lapT
  refine b1_ok (w := w) S fun pv as xs qs ks H1 L1 N c1 => ?_
  refine b2_ok L1 N fun d ev H2 L2 V2 E c2 => ?_
  refine b3_ok L2 N fun at_ ts H3 t3 l2 hin S3 c3 => ?_
  have L3 := L2.but c3 S3
  have V3 := V2.mono c3
  refine b4_ok (K := K) S3 fun dt H4 n4 t4 S4 c4 => ?_
  refine b5_ok L3 N n4 c4 S4 t4 fun tb z8 H5 t5 htb S5 c5 => ?_
  have L5 := L3.but c5 S5
  have V5 := V3.mono c5
  have t35 := t3.mono c5
  refine b6_ok S5 t35 (fun t ht => by have := tmIn_deep t (hin t ht); omega) (by omega) t5 fun ap kd H6 p6 k6 nk S6 e6 => ?_
  have dnk : d ∉ kd :: [] := fun z => by
    rw [List.mem_singleton] at z
    obtain ⟨mv, m1, _⟩ := V5
    rcases m1.obj with g | ⟨od, g⟩
    · rw [← z] at nk
      rw [hide_ex _ _ g] at nk
      cases nk
    · rw [← z] at nk
      rw [hide_ex _ _ g] at nk
      cases nk
  have dtk : dt ∉ kd :: [] := fun z => by
    rw [List.mem_singleton] at z
    obtain ⟨mt, g, _⟩ := t5
    rw [← z, g] at nk
    cases nk
  have L6 : Lg K w p c qs ks pv as xs d ev at_ ts dt tb ap kd [] [] H6 := ⟨L5.ex e6, V5.mono (But.of (S := [p, c]) e6), t35.mono (But.of (S := [p, c]) e6), t5.but (But.of e6), p6, k6, ⟨(fun x hx => by cases hx), List.nodup_nil⟩, dnk, dtk⟩
  have c06 : But [p, c] H H5 := ((c1.trans c2).trans c3).trans c5
  have nkH : H kd = none := by
    cases z : H kd with
    | none => rfl
    | some o =>
      have kS : kd ∉ [p, c] := k6.off
      rw [c06.get kS z] at nk
      cases nk
  refine b7_ok (H0 := H) L6 N E l2 hin htb (c06.trans (But.of e6)) nkH fun κ zs z11 H7 L7 s7 c7 => ?_
  have T7 : Tabs T H7 := S.tabs c7 T0
  refine b8_ok L7 N E s7 fun me H8 e8 M8 => ?_
  have L8 := lb_of (L7.ex e8) (Tabs.ext T7 e8) M8
  refine b9_ok L8 N E L7.kok l2 hin htb fun z11' z14 H9 L9 => ?_
  refine b10_ok L9 N E L7.kok htb fun dl H10 L10 V10 => ?_
  refine b11_ok L10 N E L7.kok l2 hin htb V10 fun z11'' H11 L11 => ?_
  refine b12_ok L11 N fun q hq => ?_
  exact b13_ok L11 N E l2 hin hq fun H12 S12 T12 => h _ _ _ _ _ _ _ _ _ _ _ _ _ _ _ _ _ H12 S12 T12
end
end L2.Vf.K14
/-! The law. -/
namespace L2.Vf.K14
open PySem PySem.Spec PyProof.Rows
open Evl (Ex Ev EvT EvL EvA)
open NdefX LamX
abbrev s_law : Stmt := top 32
def spLaw (K : PySem.W.Frag) (T : List (Addr × Str)) : Sp := fun vs H Q _ => ∃ (a : Addr) (ns : List Int), vs = [.ref a] ∧ SqL K H a (ns.map V.int) ∧ ns.length ≤ 63 ∧ Tabs T H ∧ ∀ H', Q (.bl true) H'
structure Own (P : Program) (w : World) (K : PySem.W.Frag) (mg : Str → Option Value) (base : Heap) (C : Addr) (T : List (Addr × Str)) : Prop where
  source : Has P w K mg base 1 "_law_source" ["_law_script"] (spSource K)
  pick : Has P w K mg base 1 "_law_pick" ["_law_source_here", "_law_many"] spPick
  of_ : Has P w K mg base 2 "_law_of" ["_law_source_here", "_law_some"] (spOf K)
  prims : Has P w K mg base 3 "_law_primitives" ["_law_source_here"] (spPrims K)
  vars : Has P w K mg base 3 "_law_variables" ["_law_source_here", "_law_many"] (spVars K)
  term : Has P w K mg base 8 "_law_term" ["_law_source_here", "_law_primitives_here", "_law_some", "_law_deep"] (spLess K 5)
  put : Has P w K mg base 5 "_law_put" ["_law_term_here", "_law_table"] (spPut K w 5)
  grown : Has P w K mg base 9 "_law_grown" ["_law_source_here", "_law_known", "_law_term_here", "_law_values"] (spGrown K w 7)
  value : Has P w K mg base 7 "_law_value" ["_law_known", "_law_term_here", "_law_values"] (spLawValue K w 7)
  putIn : Has P w K mg base 3 "put_in" ["term", "table"] (spPutIn K w T)
  valueOf : Has P w K mg base 4 "value_of" ["meaning", "term", "values"] (spValueOf K w C T)
  meaning : HasM P w K mg base C
  ring : Has P w K mg base 6 "_law_ring_right" ["_law_source_here"] (spRing T)
structure Names (mg : Str → Option Value) : Prop where
  range : mg "range" = none
  repr : mg "repr" = none
  isinstance : mg "isinstance" = none
  tuple : mg "tuple" = none
  dict : mg "dict" = none
  list : mg "list" = none
  bool : mg "bool" = none
section
variable {P : Program} {w : World} {K : PySem.W.Frag} {mg : Str → Option Value} {base : Heap} {f C : Addr} {fd : FuncData} {T : List (Addr × Str)}
abbrev n_law : List Str := ["_law_script", "_law_source_here", "_law_lap", "_law_primitives_here", "_law_some", "_law_values", "_law_terms", "_law_table", "_law_k", "_law_put_here", "_law_known", "_law_term_here", "_law_meaning", "_law_seen", "_law_told", "_law_late", "_law_name", "_law_count", "_law_v"]
theorem sc_law : FnScope n_law ["_law_script"] (defScope s_law) := ⟨rfl, rfl, rfl, by decide +kernel, rfl, by decide +kernel, by decide +kernel⟩
theorem ok_law (F : Fun K "law" "law" s_law f fd) (M : Names mg) (O : Own P w K mg base C T) : FnG P w K mg base CX0 10 f fd ["_law_script"] (spLaw K T) := by
  obtain ⟨f1, fd1, G__law_source, m__law_source, k__law_source, b__law_source⟩ := O.source
  obtain ⟨f2, fd2, G__law_pick, m__law_pick, k__law_pick, b__law_pick⟩ := O.pick
  obtain ⟨f3, fd3, G__law_primitives, m__law_primitives, k__law_primitives, b__law_primitives⟩ := O.prims
  obtain ⟨f4, fd4, G__law_variables, m__law_variables, k__law_variables, b__law_variables⟩ := O.vars
  obtain ⟨f5, fd5, G__law_term, m__law_term, k__law_term, b__law_term⟩ := O.term
  obtain ⟨f6, fd6, G__law_of, m__law_of, k__law_of, b__law_of⟩ := O.of_
  obtain ⟨f7, fd7, G__law_put, m__law_put, k__law_put, b__law_put⟩ := O.put
  obtain ⟨f8, fd8, G_put_in, m_put_in, k_put_in, b_put_in⟩ := O.putIn
  obtain ⟨f9, fd9, G__law_grown, m__law_grown, k__law_grown, b__law_grown⟩ := O.grown
  obtain ⟨f10, fd10, G__law_value, m__law_value, k__law_value, b__law_value⟩ := O.value
  obtain ⟨f11, fd11, G_value_of, m_value_of, k_value_of, b_value_of⟩ := O.valueOf
  obtain ⟨f12, fd12, M_Meaning, G_Meaning, m_Meaning, b_Meaning⟩ := O.meaning
  obtain ⟨f13, fd13, G__law_ring_right, m__law_ring_right, k__law_ring_right, b__law_ring_right⟩ := O.ring
  obtain ⟨m_range, m_repr, m_isinstance, m_tuple, m_dict, m_list, m_bool⟩ := M
  refine okG F sc_law (fun vs H Q E h => ?_) (fun cdv A outer s H vs Q E hgu hr h => ?_)
  · obtain ⟨a, ns, rfl, _⟩ := h
    rfl
  obtain ⟨a, ns, rfl, hS, hl, hT, q⟩ := h
  refine ⟨_, (pss_cons (ps_set (i := 1) sc_law.nd rfl (.inr rfl) (pe_call G__law_source (hr.mono (by omega)) (by rfl) m__law_source k__law_source b__law_source .nil pass0 (pa_cons (pv 0) pa_nil)))
  (pss_cons (ps_for PassesOwn.never rfl (pi_range1 rfl m_range (pa_cons pe_int pa_nil)) (pg_name (i := 2) sc_law.nd rfl (.inl rfl))
  (pss_cons (ps_asg (pe_tup (pa_cons (pe_call G__law_primitives (hr.mono (by omega)) (by rfl) m__law_primitives k__law_primitives b__law_primitives .nil pass0 (pa_cons (pv 1) pa_nil)) (pa_cons (pe_call G__law_variables (hr.mono (by omega)) (by rfl) m__law_variables k__law_variables b__law_variables .nil pass0 (pa_cons (pv 1) (pa_cons pe_int pa_nil))) pa_nil))) (pg_tup rfl (pgs_cons (pg_name (i := 3) sc_law.nd rfl (.inr rfl)) (pgs_cons (pg_name (i := 4) sc_law.nd rfl (.inr rfl)) pgs_nil))))
  (pss_cons (ps_set (i := 5) sc_law.nd rfl (.inr rfl) (pe_callTy (call_dictM (K := K) (w := w) (units60 hr) rfl) (by rfl) m_dict (by decide +kernel) (pa_cons (pe_lc (own := [("_law_v", 18)]) (g := gName 18) (tt := _) rfl sc_law.nd (pi_list (pv 4)) (blkOk_by (N := n_law) (sc := defScope s_law) (by decide +kernel)) (fun _ _ _ _ _ => (pg_name (i := 18) sc_law.nd rfl (.inl rfl))) (fun _ _ _ _ _ => pts_nil) (fun _ _ _ _ _ => (pe_tup (pa_cons (pv 18) (pa_cons (pe_call G__law_of (hr.mono (by omega)) (by rfl) m__law_of k__law_of b__law_of .nil pass0 (pa_cons (pv 1) (pa_cons (pe_lst (pa_cons pe_int (pa_cons pe_int (pa_cons pe_int (pa_cons pe_int (pa_cons pe_int (pa_cons (pe_op op_pow pe_int pe_int) pa_nil))))))) pa_nil))) pa_nil))))) pa_nil)))
  (pss_cons (ps_set (i := 6) sc_law.nd rfl (.inr rfl) (pe_lc (own := [("_law_k", 8)]) (g := gName 8) (tt := _) rfl sc_law.nd (pi_range1 rfl m_range (pa_cons pe_int pa_nil)) (blkOk_by (N := n_law) (sc := defScope s_law) (by decide +kernel)) (fun _ _ _ _ _ => (pg_name (i := 8) sc_law.nd rfl (.inl rfl))) (fun _ _ _ _ _ => pts_nil) (fun _ _ _ _ _ => (pe_call G__law_term (hr.mono (by omega)) (by rfl) m__law_term k__law_term b__law_term .nil pass0 (pa_cons (pv 1) (pa_cons (pv 3) (pa_cons (pv 4) (pa_cons (pe_op op_add pe_int (pe_call G__law_pick (hr.mono (by omega)) (by rfl) m__law_pick k__law_pick b__law_pick .nil pass0 (pa_cons (pv 1) (pa_cons pe_int pa_nil)))) pa_nil))))))))
  (pss_cons (ps_set (i := 7) sc_law.nd rfl (.inr rfl) (pe_mnew (w := w)))
  (pss_cons (ps_for PassesOwn.never rfl (pi_range1 rfl m_range (pa_cons (pe_call G__law_pick (hr.mono (by omega)) (by rfl) m__law_pick k__law_pick b__law_pick .nil pass0 (pa_cons (pv 1) (pa_cons pe_int pa_nil))) pa_nil)) (pg_name (i := 8) sc_law.nd rfl (.inl rfl))
  (pss_one (ps_mput (K := K) (w := w) (units40 hr) (pv 7) (pe_call G__law_of (hr.mono (by omega)) (by rfl) m__law_of k__law_of b__law_of .nil pass0 (pa_cons (pv 1) (pa_cons (pv 4) pa_nil))) (pe_call G__law_term (hr.mono (by omega)) (by rfl) m__law_term k__law_term b__law_term .nil pass0 (pa_cons (pv 1) (pa_cons (pv 3) (pa_cons (pv 4) (pa_cons (pe_call G__law_pick (hr.mono (by omega)) (by rfl) m__law_pick k__law_pick b__law_pick .nil pass0 (pa_cons (pv 1) (pa_cons pe_int pa_nil))) pa_nil))))) rfl)))
  (pss_cons (ps_asg (pe_tup (pa_cons (pe_lc (own := [("_law_term_here", 11)]) (g := gName 11) (tt := _) rfl sc_law.nd (pi_list (pv 6)) (blkOk_by (N := n_law) (sc := defScope s_law) (by decide +kernel)) (fun _ _ _ _ _ => (pg_name (i := 11) sc_law.nd rfl (.inl rfl))) (fun _ _ _ _ _ => pts_nil) (fun _ _ _ _ _ => (pe_call G__law_put (hr.mono (by omega)) (by rfl) m__law_put k__law_put b__law_put .nil pass0 (pa_cons (pv 11) (pa_cons (pv 7) pa_nil))))) (pa_cons (pe_mnew (w := w)) pa_nil))) (pg_tup rfl (pgs_cons (pg_name (i := 9) sc_law.nd rfl (.inl rfl)) (pgs_cons (pg_name (i := 10) sc_law.nd rfl (.inr rfl)) pgs_nil))))
  (pss_cons (ps_for PassesOwn.never rfl (pi_list (pe_op op_cat (pv 6) (pv 9))) (pg_name (i := 11) sc_law.nd rfl (.inl rfl))
  (pss_one (ps_expr (pe_call G__law_grown (hr.mono (by omega)) (by rfl) m__law_grown k__law_grown b__law_grown .nil pass0 (pa_cons (pv 1) (pa_cons (pv 10) (pa_cons (pv 11) (pa_cons (pv 5) pa_nil))))))))
  (pss_cons (ps_asg (pe_tup (pa_cons (pe_make M_Meaning G_Meaning (hr.mono (by omega)) (by rfl) m_Meaning b_Meaning .nil pass0 (pa_cons (pe_callTy (call_dictM (K := K) (w := w) (units60 hr) rfl) (by rfl) m_dict (by decide +kernel) (pa_cons (pe_lock (pe_lc (own := [("_law_name", 16)]) (g := gName 16) (tt := _) rfl sc_law.nd (pi_mix (w := w) (pv 10)) (blkOk_by (N := n_law) (sc := defScope s_law) (by decide +kernel)) (fun _ _ _ _ _ => (pg_name (i := 16) sc_law.nd rfl (.inl rfl))) (fun _ _ _ _ _ => pts_nil) (fun _ _ _ _ _ => (pe_tup (pa_cons (pv 16) (pa_cons (pe_listItemsM (K := K) (w := w) rfl (pe_mget (K := K) (w := w) (units40 hr) (pv 10) (pv 16) (fun _ _ => rfl)) (by rfl) m_list (by decide +kernel)) pa_nil)))))) pa_nil)) pa_nil)) (pa_cons (pe_callB (call_reprM (K := K) (w := w) hgu (units190 hr)) (by rfl) m_repr (by decide +kernel) (pa_cons (pv 5) pa_nil)) pa_nil))) (pg_tup rfl (pgs_cons (pg_name (i := 12) sc_law.nd rfl (.inr rfl)) (pgs_cons (pg_name (i := 13) sc_law.nd rfl (.inl rfl)) pgs_nil))))
  (pss_cons (ps_for PassesOwn.never rfl (pi_list (pe_op op_cat (pe_op op_cat (pv 6) (pv 9)) (pe_lc (own := [("_law_v", 18)]) (g := gName 18) (tt := _) rfl sc_law.nd (pi_list (pv 4)) (blkOk_by (N := n_law) (sc := defScope s_law) (by decide +kernel)) (fun _ _ _ _ _ => (pg_name (i := 18) sc_law.nd rfl (.inl rfl))) (fun _ _ _ _ _ => pts_nil) (fun _ _ _ _ _ => (pe_tup (pa_cons pe_str (pa_cons (pv 18) pa_nil))))))) (pg_name (i := 11) sc_law.nd rfl (.inl rfl))
  (pss_cons (ps_set (i := 14) sc_law.nd rfl (.inl rfl) (pe_call G_value_of (hr.mono (by omega)) (by rfl) m_value_of k_value_of b_value_of .nil pass0 (pa_cons (pv 12) (pa_cons (pv 11) (pa_cons (pv 5) pa_nil)))))
  (pss_one (ps_if (PW.pt (pw_or (pt_cmpR op_ne (pv 14) (pe_call G__law_value (hr.mono (by omega)) (by rfl) m__law_value k__law_value b__law_value .nil pass0 (pa_cons (pv 10) (pa_cons (pv 11) (pa_cons (pv 5) pa_nil)))) (nomark _)) (pw_or1 (pt_val (pe_callB (call_isiK0 (K := K)) (by rfl) m_isinstance (by decide +kernel) (pa_cons (pv 14) (pa_cons (pe_bltn (v := .ty "bool") (by rfl) m_bool (by decide +kernel) rfl) pa_nil)))))))
  (pss_one (ps_ret pe_bl))
  pss_nil))))
  (pss_cons (ps_set (i := 15) sc_law.nd rfl (.inl rfl) (pe_callTy (call_dictM (K := K) (w := w) (units60 hr) rfl) (by rfl) m_dict (by decide +kernel) (pa_cons (pe_lc (own := [("_law_v", 18)]) (g := gName 18) (tt := _) rfl sc_law.nd (pi_list (pv 4)) (blkOk_by (N := n_law) (sc := defScope s_law) (by decide +kernel)) (fun _ _ _ _ _ => (pg_name (i := 18) sc_law.nd rfl (.inl rfl))) (fun _ _ _ _ _ => pts_nil) (fun _ _ _ _ _ => (pe_tup (pa_cons (pv 18) (pa_cons (pe_ifExp (pt_cmpR (op_inM (K := K) (w := w) (units40 hr)) (pv 18) (pv 7) (by rfl)) (pe_call G_value_of (hr.mono (by omega)) (by rfl) m_value_of k_value_of b_value_of .nil pass0 (pa_cons (pv 12) (pa_cons (pe_mget (K := K) (w := w) (units40 hr) (pv 7) (pv 18) (fun _ _ => rfl)) (pa_cons (pv 5) pa_nil)))) (pe_mget (K := K) (w := w) (units40 hr) (pv 5) (pv 18) (fun _ _ => rfl))) pa_nil))))) pa_nil)))
  (pss_cons (ps_for PassesOwn.never rfl (pi_list (pv 6)) (pg_name (i := 11) sc_law.nd rfl (.inl rfl))
  (pss_one (ps_if (pt_cmpR op_ne (pe_call G_value_of (hr.mono (by omega)) (by rfl) m_value_of k_value_of b_value_of .nil pass0 (pa_cons (pv 12) (pa_cons (pe_call G_put_in (hr.mono (by omega)) (by rfl) m_put_in k_put_in b_put_in .nil pass0 (pa_cons (pv 11) (pa_cons (pv 7) pa_nil))) (pa_cons (pv 5) pa_nil)))) (pe_call G_value_of (hr.mono (by omega)) (by rfl) m_value_of k_value_of b_value_of .nil pass0 (pa_cons (pv 12) (pa_cons (pv 11) (pa_cons (pv 15) pa_nil)))) (nomark _))
  (pss_one (ps_ret pe_bl))
  pss_nil)))
  (pss_cons (ps_asg (pe_ix (ix_listK (K := K)) (pv 3) pe_int (fun _ _ => rfl)) (pg_tup rfl (pgs_cons (pg_name (i := 16) sc_law.nd rfl (.inl rfl)) (pgs_cons (pg_name (i := 17) sc_law.nd rfl (.inl rfl)) pgs_nil))))
  (pss_one (ps_if (PW.pt (pw_or (pt_cmpR op_ne (pe_callB (call_reprM (K := K) (w := w) hgu (units190 hr)) (by rfl) m_repr (by decide +kernel) (pa_cons (pv 5) pa_nil)) (pv 13) (nomark _)) (pw_or1 (pt_cmpR op_ne (pe_call G_value_of (hr.mono (by omega)) (by rfl) m_value_of k_value_of b_value_of .nil pass0 (pa_cons (pe_make M_Meaning G_Meaning (hr.mono (by omega)) (by rfl) m_Meaning b_Meaning .nil pass0 (pa_cons (pe_mnew (w := w)) pa_nil)) (pa_cons (pe_tup (pa_cons pe_str (pa_cons (pv 16) (pa_cons (pe_callTy (call_tuple_ofK (K := K)) (by rfl) m_tuple (by decide +kernel) (pa_cons (pe_lc (own := [("_law_k", 8)]) (g := gName 8) (tt := _) rfl sc_law.nd (pi_range1 rfl m_range (pa_cons (pv 17) pa_nil)) (blkOk_by (N := n_law) (sc := defScope s_law) (by decide +kernel)) (fun _ _ _ _ _ => (pg_name (i := 8) sc_law.nd rfl (.inl rfl))) (fun _ _ _ _ _ => pts_nil) (fun _ _ _ _ _ => (pe_ix (ix_listK (K := K)) (pv 6) pe_int (fun _ _ => rfl)))) pa_nil)) pa_nil)))) (pa_cons (pv 5) pa_nil)))) pe_int (nomark _)))))
  (pss_one (ps_ret pe_bl))
  pss_nil)))))))))))))))
  (pss_one (ps_ret (pe_call G__law_ring_right (hr.mono (by omega)) (by rfl) m__law_ring_right k__law_ring_right b__law_ring_right .nil pass0 (pa_cons (pv 1) pa_nil)))))), ?_⟩
  have sz : sizeLine = 16777216 := sizeLine_eq
  refine ⟨_, rfl, a, ns, rfl, hS, hl, fun p c H1 np nc e1 S1 => ?_⟩
  have T1 : Tabs T H1 := Tabs.ext hT e1
  dsimp only [gName]
  refine seq_to (fun σ H' => ∃ (z2 z3 z4 z5 z6 z7 z8 z9 z10 z11 z12 z13 z14 z15 z16 z17 z18 : Option V), σ = sl a p [z2, z3, z4, z5, z6, z7, z8, z9, z10, z11, z12, z13, z14, z15, z16, z17, z18] ∧ Src H' p c ∧ Tabs T H') (fun N hN => ?lap) ?rest
  case rest =>
    rintro σ H2 ⟨z2, z3, z4, z5, z6, z7, z8, z9, z10, z11, z12, z13, z14, z15, z16, z17, z18, rfl, S2, T2⟩
    exact ⟨_, rfl, p, c, rfl, S2, T2, q⟩
  case lap =>
  refine ⟨_, rfl, (by omega), (by omega), ?_⟩
  refine for_range (lo := 0) (n := 4) (fun i σ H' => ∃ (z2 z3 z4 z5 z6 z7 z8 z9 z10 z11 z12 z13 z14 z15 z16 z17 z18 : Option V), σ = sl a p [z2, z3, z4, z5, z6, z7, z8, z9, z10, z11, z12, z13, z14, z15, z16, z17, z18] ∧ Src H' p c ∧ Tabs T H') ⟨_, _, _, _, _, _, _, _, _, _, _, _, _, _, _, _, _, rfl, S1, T1⟩ ?step ?fin
  case fin =>
    rintro σ H2 ⟨z2, z3, z4, z5, z6, z7, z8, z9, z10, z11, z12, z13, z14, z15, z16, z17, z18, rfl, S2, T2⟩
    exact hN _ _ ⟨_, _, _, _, _, _, _, _, _, _, _, _, _, _, _, _, _, rfl, S2, T2⟩
  case step =>
  rintro i σ H2 hi ⟨z2, z3, z4, z5, z6, z7, z8, z9, z10, z11, z12, z13, z14, z15, z16, z17, z18, rfl, S2, T2⟩
  refine lap_ok S2 T2 fun z2 z3 z4 z5 z6 z7 z8 z9 z10 z11 z12 z13 z14 z15 z16 z17 z18 H3 S3 T3 => ?_
  exact ⟨_, _, _, _, _, _, _, _, _, _, _, _, _, _, _, _, _, rfl, S3, T3⟩
end
end L2.Vf.K14
namespace L2.Vf.K14
open PySem PySem.Spec PyProof.Rows
open Evl (Ex Ev EvT EvL EvA)
open NdefX LamX
abbrev q_put_in : Str := (envOfC "put_in" (defScope s_put_in) 0 0 .none).qual ++ "<lambda>"
abbrev q_value_of : Str := (envOfC "value_of" (defScope s_value_of) 0 0 .none).qual ++ "<lambda>"
theorem all_mk {P : Program} {w : World} {K : PySem.W.Frag} {h : Heap} {mg : Str → Option Value} {fa cc_put_in cc_value_of t_put_in t_value_of f_is_word f_is_number f_folded f_put_in f_is_list f_is_row f_is_table f_is_arguments f_value_of f_L_source f_L_pick f_L_of f_L_word f_L_primitives f_L_variables f_L_term f_L_put f_L_value f_L_grown f_L_ring_right f_Law f_init f_apply C : Addr} {tk_LETTERS tk_DIGITS tk_LONGEST : Tok}
    {od_is_word an_is_word : Option Addr} {sl_is_word : Array (Option Value)} {oc_is_word kV_is_word dc_is_word pm_is_word ct_is_word cd_is_word : Value}
    {od_is_number an_is_number : Option Addr} {sl_is_number : Array (Option Value)} {oc_is_number kV_is_number dc_is_number pm_is_number ct_is_number cd_is_number : Value}
    {od_folded an_folded : Option Addr} {sl_folded : Array (Option Value)} {oc_folded kV_folded dc_folded pm_folded ct_folded cd_folded : Value}
    {od_put_in an_put_in : Option Addr} {sl_put_in : Array (Option Value)} {oc_put_in kV_put_in dc_put_in pm_put_in ct_put_in : Value}
    {od_is_list an_is_list : Option Addr} {sl_is_list : Array (Option Value)} {oc_is_list kV_is_list dc_is_list pm_is_list ct_is_list cd_is_list : Value}
    {od_is_row an_is_row : Option Addr} {sl_is_row : Array (Option Value)} {oc_is_row kV_is_row dc_is_row pm_is_row ct_is_row cd_is_row : Value}
    {od_is_table an_is_table : Option Addr} {sl_is_table : Array (Option Value)} {oc_is_table kV_is_table dc_is_table pm_is_table ct_is_table cd_is_table : Value}
    {od_is_arguments an_is_arguments : Option Addr} {sl_is_arguments : Array (Option Value)} {oc_is_arguments kV_is_arguments dc_is_arguments pm_is_arguments ct_is_arguments cd_is_arguments : Value}
    {od_value_of an_value_of : Option Addr} {sl_value_of : Array (Option Value)} {oc_value_of kV_value_of dc_value_of pm_value_of ct_value_of : Value}
    {od_L_source an_L_source : Option Addr} {sl_L_source : Array (Option Value)} {oc_L_source kV_L_source dc_L_source pm_L_source ct_L_source cd_L_source : Value}
    {od_L_pick an_L_pick : Option Addr} {sl_L_pick : Array (Option Value)} {oc_L_pick kV_L_pick dc_L_pick pm_L_pick ct_L_pick cd_L_pick : Value}
    {od_L_of an_L_of : Option Addr} {sl_L_of : Array (Option Value)} {oc_L_of kV_L_of dc_L_of pm_L_of ct_L_of cd_L_of : Value}
    {od_L_word an_L_word : Option Addr} {sl_L_word : Array (Option Value)} {oc_L_word kV_L_word dc_L_word pm_L_word ct_L_word cd_L_word : Value}
    {od_L_primitives an_L_primitives : Option Addr} {sl_L_primitives : Array (Option Value)} {oc_L_primitives kV_L_primitives dc_L_primitives pm_L_primitives ct_L_primitives cd_L_primitives : Value}
    {od_L_variables an_L_variables : Option Addr} {sl_L_variables : Array (Option Value)} {oc_L_variables kV_L_variables dc_L_variables pm_L_variables ct_L_variables cd_L_variables : Value}
    {od_L_term an_L_term : Option Addr} {sl_L_term : Array (Option Value)} {oc_L_term kV_L_term dc_L_term pm_L_term ct_L_term cd_L_term : Value}
    {od_L_put an_L_put : Option Addr} {sl_L_put : Array (Option Value)} {oc_L_put kV_L_put dc_L_put pm_L_put ct_L_put cd_L_put : Value}
    {od_L_value an_L_value : Option Addr} {sl_L_value : Array (Option Value)} {oc_L_value kV_L_value dc_L_value pm_L_value ct_L_value cd_L_value : Value}
    {od_L_grown an_L_grown : Option Addr} {sl_L_grown : Array (Option Value)} {oc_L_grown kV_L_grown dc_L_grown pm_L_grown ct_L_grown cd_L_grown : Value}
    {od_L_ring_right an_L_ring_right : Option Addr} {sl_L_ring_right : Array (Option Value)} {oc_L_ring_right kV_L_ring_right dc_L_ring_right pm_L_ring_right ct_L_ring_right cd_L_ring_right : Value}
    {od_Law an_Law : Option Addr} {sl_Law : Array (Option Value)} {oc_Law kV_Law dc_Law pm_Law ct_Law cd_Law : Value}
    {od_init an_init : Option Addr} {sl_init : Array (Option Value)} {oc_init kV_init dc_init pm_init ct_init cd_init : Value}
    {od_apply an_apply : Option Addr} {sl_apply : Array (Option Value)} {oc_apply kV_apply dc_apply pm_apply ct_apply cd_apply : Value} (X : K.In h) (G : h.Ns mainGlobals mg) (hfa : mg "law" = some (.ref fa))
    (a_is_word : PySem.W.nsIn K mainGlobals "is_word" = some (some (.ref f_is_word)))
    (l_is_word : K.lookup f_is_word = some ⟨oc_is_word, od_is_word, .func (PySem.W.fnOf "is_word" "is_word" (defArgs s_is_word) (defBody s_is_word) (defScope s_is_word) .none kV_is_word dc_is_word pm_is_word an_is_word cd_is_word ct_is_word), sl_is_word⟩)
    (c_is_word : PySem.W.codeIn K cd_is_word "is_word" = true)
    (k_is_word : PySem.W.keepIn K (.ref f_is_word) = true)
    (a_is_number : PySem.W.nsIn K mainGlobals "is_number" = some (some (.ref f_is_number)))
    (l_is_number : K.lookup f_is_number = some ⟨oc_is_number, od_is_number, .func (PySem.W.fnOf "is_number" "is_number" (defArgs s_is_number) (defBody s_is_number) (defScope s_is_number) .none kV_is_number dc_is_number pm_is_number an_is_number cd_is_number ct_is_number), sl_is_number⟩)
    (c_is_number : PySem.W.codeIn K cd_is_number "is_number" = true)
    (k_is_number : PySem.W.keepIn K (.ref f_is_number) = true)
    (a_folded : PySem.W.nsIn K mainGlobals "folded" = some (some (.ref f_folded)))
    (l_folded : K.lookup f_folded = some ⟨oc_folded, od_folded, .func (PySem.W.fnOf "folded" "folded" (defArgs s_folded) (defBody s_folded) (defScope s_folded) .none kV_folded dc_folded pm_folded an_folded cd_folded ct_folded), sl_folded⟩)
    (c_folded : PySem.W.codeIn K cd_folded "folded" = true)
    (k_folded : PySem.W.keepIn K (.ref f_folded) = true)
    (a_put_in : PySem.W.nsIn K mainGlobals "put_in" = some (some (.ref f_put_in)))
    (l_put_in : K.lookup f_put_in = some ⟨oc_put_in, od_put_in, .func (PySem.W.fnOf "put_in" "put_in" (defArgs s_put_in) (defBody s_put_in) (defScope s_put_in) .none kV_put_in dc_put_in pm_put_in an_put_in (.ref cc_put_in) ct_put_in), sl_put_in⟩)
    (c_put_in : PySem.W.codeIn K (.ref cc_put_in) "put_in" = true)
    (k_put_in : PySem.W.keepIn K (.ref f_put_in) = true)
    (a_is_list : PySem.W.nsIn K mainGlobals "is_list" = some (some (.ref f_is_list)))
    (l_is_list : K.lookup f_is_list = some ⟨oc_is_list, od_is_list, .func (PySem.W.fnOf "is_list" "is_list" (defArgs s_is_list) (defBody s_is_list) (defScope s_is_list) .none kV_is_list dc_is_list pm_is_list an_is_list cd_is_list ct_is_list), sl_is_list⟩)
    (c_is_list : PySem.W.codeIn K cd_is_list "is_list" = true)
    (k_is_list : PySem.W.keepIn K (.ref f_is_list) = true)
    (a_is_row : PySem.W.nsIn K mainGlobals "is_row" = some (some (.ref f_is_row)))
    (l_is_row : K.lookup f_is_row = some ⟨oc_is_row, od_is_row, .func (PySem.W.fnOf "is_row" "is_row" (defArgs s_is_row) (defBody s_is_row) (defScope s_is_row) .none kV_is_row dc_is_row pm_is_row an_is_row cd_is_row ct_is_row), sl_is_row⟩)
    (c_is_row : PySem.W.codeIn K cd_is_row "is_row" = true)
    (k_is_row : PySem.W.keepIn K (.ref f_is_row) = true)
    (a_is_table : PySem.W.nsIn K mainGlobals "is_table" = some (some (.ref f_is_table)))
    (l_is_table : K.lookup f_is_table = some ⟨oc_is_table, od_is_table, .func (PySem.W.fnOf "is_table" "is_table" (defArgs s_is_table) (defBody s_is_table) (defScope s_is_table) .none kV_is_table dc_is_table pm_is_table an_is_table cd_is_table ct_is_table), sl_is_table⟩)
    (c_is_table : PySem.W.codeIn K cd_is_table "is_table" = true)
    (k_is_table : PySem.W.keepIn K (.ref f_is_table) = true)
    (a_is_arguments : PySem.W.nsIn K mainGlobals "is_arguments" = some (some (.ref f_is_arguments)))
    (l_is_arguments : K.lookup f_is_arguments = some ⟨oc_is_arguments, od_is_arguments, .func (PySem.W.fnOf "is_arguments" "is_arguments" (defArgs s_is_arguments) (defBody s_is_arguments) (defScope s_is_arguments) .none kV_is_arguments dc_is_arguments pm_is_arguments an_is_arguments cd_is_arguments ct_is_arguments), sl_is_arguments⟩)
    (c_is_arguments : PySem.W.codeIn K cd_is_arguments "is_arguments" = true)
    (k_is_arguments : PySem.W.keepIn K (.ref f_is_arguments) = true)
    (a_value_of : PySem.W.nsIn K mainGlobals "value_of" = some (some (.ref f_value_of)))
    (l_value_of : K.lookup f_value_of = some ⟨oc_value_of, od_value_of, .func (PySem.W.fnOf "value_of" "value_of" (defArgs s_value_of) (defBody s_value_of) (defScope s_value_of) .none kV_value_of dc_value_of pm_value_of an_value_of (.ref cc_value_of) ct_value_of), sl_value_of⟩)
    (c_value_of : PySem.W.codeIn K (.ref cc_value_of) "value_of" = true)
    (k_value_of : PySem.W.keepIn K (.ref f_value_of) = true)
    (a_L_source : PySem.W.nsIn K mainGlobals "_law_source" = some (some (.ref f_L_source)))
    (l_L_source : K.lookup f_L_source = some ⟨oc_L_source, od_L_source, .func (PySem.W.fnOf "_law_source" "_law_source" (defArgs s__law_source) (defBody s__law_source) (defScope s__law_source) .none kV_L_source dc_L_source pm_L_source an_L_source cd_L_source ct_L_source), sl_L_source⟩)
    (c_L_source : PySem.W.codeIn K cd_L_source "_law_source" = true)
    (k_L_source : PySem.W.keepIn K (.ref f_L_source) = true)
    (a_L_pick : PySem.W.nsIn K mainGlobals "_law_pick" = some (some (.ref f_L_pick)))
    (l_L_pick : K.lookup f_L_pick = some ⟨oc_L_pick, od_L_pick, .func (PySem.W.fnOf "_law_pick" "_law_pick" (defArgs s__law_pick) (defBody s__law_pick) (defScope s__law_pick) .none kV_L_pick dc_L_pick pm_L_pick an_L_pick cd_L_pick ct_L_pick), sl_L_pick⟩)
    (c_L_pick : PySem.W.codeIn K cd_L_pick "_law_pick" = true)
    (k_L_pick : PySem.W.keepIn K (.ref f_L_pick) = true)
    (a_L_of : PySem.W.nsIn K mainGlobals "_law_of" = some (some (.ref f_L_of)))
    (l_L_of : K.lookup f_L_of = some ⟨oc_L_of, od_L_of, .func (PySem.W.fnOf "_law_of" "_law_of" (defArgs s__law_of) (defBody s__law_of) (defScope s__law_of) .none kV_L_of dc_L_of pm_L_of an_L_of cd_L_of ct_L_of), sl_L_of⟩)
    (c_L_of : PySem.W.codeIn K cd_L_of "_law_of" = true)
    (k_L_of : PySem.W.keepIn K (.ref f_L_of) = true)
    (a_L_word : PySem.W.nsIn K mainGlobals "_law_word" = some (some (.ref f_L_word)))
    (l_L_word : K.lookup f_L_word = some ⟨oc_L_word, od_L_word, .func (PySem.W.fnOf "_law_word" "_law_word" (defArgs s__law_word) (defBody s__law_word) (defScope s__law_word) .none kV_L_word dc_L_word pm_L_word an_L_word cd_L_word ct_L_word), sl_L_word⟩)
    (c_L_word : PySem.W.codeIn K cd_L_word "_law_word" = true)
    (k_L_word : PySem.W.keepIn K (.ref f_L_word) = true)
    (a_L_primitives : PySem.W.nsIn K mainGlobals "_law_primitives" = some (some (.ref f_L_primitives)))
    (l_L_primitives : K.lookup f_L_primitives = some ⟨oc_L_primitives, od_L_primitives, .func (PySem.W.fnOf "_law_primitives" "_law_primitives" (defArgs s__law_primitives) (defBody s__law_primitives) (defScope s__law_primitives) .none kV_L_primitives dc_L_primitives pm_L_primitives an_L_primitives cd_L_primitives ct_L_primitives), sl_L_primitives⟩)
    (c_L_primitives : PySem.W.codeIn K cd_L_primitives "_law_primitives" = true)
    (k_L_primitives : PySem.W.keepIn K (.ref f_L_primitives) = true)
    (a_L_variables : PySem.W.nsIn K mainGlobals "_law_variables" = some (some (.ref f_L_variables)))
    (l_L_variables : K.lookup f_L_variables = some ⟨oc_L_variables, od_L_variables, .func (PySem.W.fnOf "_law_variables" "_law_variables" (defArgs s__law_variables) (defBody s__law_variables) (defScope s__law_variables) .none kV_L_variables dc_L_variables pm_L_variables an_L_variables cd_L_variables ct_L_variables), sl_L_variables⟩)
    (c_L_variables : PySem.W.codeIn K cd_L_variables "_law_variables" = true)
    (k_L_variables : PySem.W.keepIn K (.ref f_L_variables) = true)
    (a_L_term : PySem.W.nsIn K mainGlobals "_law_term" = some (some (.ref f_L_term)))
    (l_L_term : K.lookup f_L_term = some ⟨oc_L_term, od_L_term, .func (PySem.W.fnOf "_law_term" "_law_term" (defArgs s__law_term) (defBody s__law_term) (defScope s__law_term) .none kV_L_term dc_L_term pm_L_term an_L_term cd_L_term ct_L_term), sl_L_term⟩)
    (c_L_term : PySem.W.codeIn K cd_L_term "_law_term" = true)
    (k_L_term : PySem.W.keepIn K (.ref f_L_term) = true)
    (a_L_put : PySem.W.nsIn K mainGlobals "_law_put" = some (some (.ref f_L_put)))
    (l_L_put : K.lookup f_L_put = some ⟨oc_L_put, od_L_put, .func (PySem.W.fnOf "_law_put" "_law_put" (defArgs s__law_put) (defBody s__law_put) (defScope s__law_put) .none kV_L_put dc_L_put pm_L_put an_L_put cd_L_put ct_L_put), sl_L_put⟩)
    (c_L_put : PySem.W.codeIn K cd_L_put "_law_put" = true)
    (k_L_put : PySem.W.keepIn K (.ref f_L_put) = true)
    (a_L_value : PySem.W.nsIn K mainGlobals "_law_value" = some (some (.ref f_L_value)))
    (l_L_value : K.lookup f_L_value = some ⟨oc_L_value, od_L_value, .func (PySem.W.fnOf "_law_value" "_law_value" (defArgs s__law_value) (defBody s__law_value) (defScope s__law_value) .none kV_L_value dc_L_value pm_L_value an_L_value cd_L_value ct_L_value), sl_L_value⟩)
    (c_L_value : PySem.W.codeIn K cd_L_value "_law_value" = true)
    (k_L_value : PySem.W.keepIn K (.ref f_L_value) = true)
    (a_L_grown : PySem.W.nsIn K mainGlobals "_law_grown" = some (some (.ref f_L_grown)))
    (l_L_grown : K.lookup f_L_grown = some ⟨oc_L_grown, od_L_grown, .func (PySem.W.fnOf "_law_grown" "_law_grown" (defArgs s__law_grown) (defBody s__law_grown) (defScope s__law_grown) .none kV_L_grown dc_L_grown pm_L_grown an_L_grown cd_L_grown ct_L_grown), sl_L_grown⟩)
    (c_L_grown : PySem.W.codeIn K cd_L_grown "_law_grown" = true)
    (k_L_grown : PySem.W.keepIn K (.ref f_L_grown) = true)
    (a_L_ring_right : PySem.W.nsIn K mainGlobals "_law_ring_right" = some (some (.ref f_L_ring_right)))
    (l_L_ring_right : K.lookup f_L_ring_right = some ⟨oc_L_ring_right, od_L_ring_right, .func (PySem.W.fnOf "_law_ring_right" "_law_ring_right" (defArgs s__law_ring_right) (defBody s__law_ring_right) (defScope s__law_ring_right) .none kV_L_ring_right dc_L_ring_right pm_L_ring_right an_L_ring_right cd_L_ring_right ct_L_ring_right), sl_L_ring_right⟩)
    (c_L_ring_right : PySem.W.codeIn K cd_L_ring_right "_law_ring_right" = true)
    (k_L_ring_right : PySem.W.keepIn K (.ref f_L_ring_right) = true)
    (a_Law : PySem.W.nsIn K mainGlobals "law" = some (some (.ref f_Law)))
    (l_Law : K.lookup f_Law = some ⟨oc_Law, od_Law, .func (PySem.W.fnOf "law" "law" (defArgs s_law) (defBody s_law) (defScope s_law) .none kV_Law dc_Law pm_Law an_Law cd_Law ct_Law), sl_Law⟩)
    (c_Law : PySem.W.codeIn K cd_Law "law" = true)
    (k_Law : PySem.W.keepIn K (.ref f_Law) = true)
    (a_Meaning : PySem.W.nsIn K mainGlobals "Meaning" = some (some (.ref C)))
    (a_init : PySem.W.findIn K (.ref C) "__init__" = some (some (.ref f_init)))
    (k1_init : PySem.W.isFn K (.ref f_init) = true)
    (l_init : K.lookup f_init = some ⟨oc_init, od_init, .func (PySem.W.fnOf "__init__" "Meaning.__init__" (defArgs s_Meaning___init__) (defBody s_Meaning___init__) (defScope s_Meaning___init__) .none kV_init dc_init pm_init an_init cd_init ct_init), sl_init⟩)
    (c_init : PySem.W.codeIn K cd_init "Meaning.__init__" = true)
    (k_init : PySem.W.keepIn K (.ref f_init) = true)
    (a_apply : PySem.W.findIn K (.ref C) "apply" = some (some (.ref f_apply)))
    (k1_apply : PySem.W.isFn K (.ref f_apply) = true)
    (l_apply : K.lookup f_apply = some ⟨oc_apply, od_apply, .func (PySem.W.fnOf "apply" "Meaning.apply" (defArgs s_Meaning_apply) (defBody s_Meaning_apply) (defScope s_Meaning_apply) .none kV_apply dc_apply pm_apply an_apply cd_apply ct_apply), sl_apply⟩)
    (c_apply : PySem.W.codeIn K cd_apply "Meaning.apply" = true)
    (k_apply : PySem.W.keepIn K (.ref f_apply) = true)
    (k_pg : PySem.W.plainGet K C Str.empty = true)
    (k_hd : PySem.W.hasDictIn K C = true)
    (k_po : PySem.W.plainOver K C = true)
    (k_sa : PySem.W.findIn K (.ref C) "__setattr__" = some (some (.builtin "object.__setattr__")))
    (k_mk : PySem.W.makesIn K C = true)
    (k_kc : PySem.W.keepIn K (.ref C) = true)
    (k_nT : PySem.W.findIn K (.ref C) "_tables" = some none)
    (a_LETTERS : PySem.W.nsIn K mainGlobals "LETTERS" = some (some (.str "abcdefghijklmnopqrstuvwxyz" tk_LETTERS)))
    (a_DIGITS : PySem.W.nsIn K mainGlobals "DIGITS" = some (some (.str "0123456789" tk_DIGITS)))
    (a_LONGEST : PySem.W.nsIn K mainGlobals "LONGEST" = some (some (.int 12 tk_LONGEST)))
    (z_int : PySem.W.nsIn K mainGlobals "int" = some none)
    (z_abs : PySem.W.nsIn K mainGlobals "abs" = some none)
    (z_len : PySem.W.nsIn K mainGlobals "len" = some none)
    (z_range : PySem.W.nsIn K mainGlobals "range" = some none)
    (z_str : PySem.W.nsIn K mainGlobals "str" = some none)
    (z_tuple : PySem.W.nsIn K mainGlobals "tuple" = some none)
    (z_list : PySem.W.nsIn K mainGlobals "list" = some none)
    (z_dict : PySem.W.nsIn K mainGlobals "dict" = some none)
    (z_repr : PySem.W.nsIn K mainGlobals "repr" = some none)
    (z_isinstance : PySem.W.nsIn K mainGlobals "isinstance" = some none)
    (z_reversed : PySem.W.nsIn K mainGlobals "reversed" = some none)
    (z_all : PySem.W.nsIn K mainGlobals "all" = some none)
    (z_bool : PySem.W.nsIn K mainGlobals "bool" = some none)
    (t_at_put_in : PySem.W.tabIn K "put_in" = some (cc_put_in, t_put_in))
    (t_off_put_in : K.lookup t_put_in = none)
    (t_at_value_of : PySem.W.tabIn K "value_of" = some (cc_value_of, t_value_of))
    (t_off_value_of : K.lookup t_value_of = none)
    (t_ne : (t_put_in == t_value_of) = false)
    : ∃ (fd : FuncData) (cs : List (Addr × Addr)) (sp : Sp), (∀ p ∈ cs, ∃ y ∈ [("put_in" : Str), "value_of"], PySem.W.tabIn K y = some p) ∧ (∀ p ∈ cs, K.lookup p.2 = none) ∧ (∀ (s : Shared) (u : Value), BindsTo s fd ⟨[u], []⟩ [("_law_script", u)]) ∧
        (∀ (H : Hp) (a : Addr) (ns : List Int), ns.length ≤ 63 → (∀ p ∈ cs, H p.2 = some (.tbl #[])) → SqL K H a (ns.map V.int) → sp [.ref a] H (fun v _ => v = .bl true) fun _ _ _ => False) ∧
        ∀ base : Heap, K.In base → base.Ns mainGlobals mg → (∀ p ∈ cs, TabB base mg p.1 p.2) → FnG P w K mg base CX0 10 fa fd ["_law_script"] sp := by
  have e := hfa.symm.trans (PySem.W.mg_of X G a_Law)
  cases e
  have n_int := PySem.W.mg_none_of X G z_int
  have n_abs := PySem.W.mg_none_of X G z_abs
  have n_len := PySem.W.mg_none_of X G z_len
  have n_range := PySem.W.mg_none_of X G z_range
  have n_str := PySem.W.mg_none_of X G z_str
  have n_tuple := PySem.W.mg_none_of X G z_tuple
  have n_list := PySem.W.mg_none_of X G z_list
  have n_dict := PySem.W.mg_none_of X G z_dict
  have n_repr := PySem.W.mg_none_of X G z_repr
  have n_isinstance := PySem.W.mg_none_of X G z_isinstance
  have n_reversed := PySem.W.mg_none_of X G z_reversed
  have n_all := PySem.W.mg_none_of X G z_all
  have n_bool := PySem.W.mg_none_of X G z_bool
  have F_is_word := fun_mk (st := s_is_word) l_is_word c_is_word k_is_word
  have b_is_word := F_is_word.binds (ps := ["value"]) fun _ _ _ _ _ _ us hl => match us, hl with | [_], _ => rfl
  have m_is_word := PySem.W.mg_of X G a_is_word
  have F_is_number := fun_mk (st := s_is_number) l_is_number c_is_number k_is_number
  have b_is_number := F_is_number.binds (ps := ["value"]) fun _ _ _ _ _ _ us hl => match us, hl with | [_], _ => rfl
  have m_is_number := PySem.W.mg_of X G a_is_number
  have F_folded := fun_mk (st := s_folded) l_folded c_folded k_folded
  have b_folded := F_folded.binds (ps := ["term", "of_variable", "of_made"]) fun _ _ _ _ _ _ us hl => match us, hl with | [_, _, _], _ => rfl
  have m_folded := PySem.W.mg_of X G a_folded
  have F_put_in : FunC K "put_in" "put_in" s_put_in f_put_in _ cc_put_in := ⟨⟨_, _, _, _, _, _, _, _, rfl, l_put_in, c_put_in⟩, k_put_in⟩
  have F0_put_in := fun_mk (st := s_put_in) l_put_in c_put_in k_put_in
  have b_put_in := F0_put_in.binds (ps := ["term", "table"]) fun _ _ _ _ _ _ us hl => match us, hl with | [_, _], _ => rfl
  have m_put_in := PySem.W.mg_of X G a_put_in
  have F_is_list := fun_mk (st := s_is_list) l_is_list c_is_list k_is_list
  have b_is_list := F_is_list.binds (ps := ["value"]) fun _ _ _ _ _ _ us hl => match us, hl with | [_], _ => rfl
  have m_is_list := PySem.W.mg_of X G a_is_list
  have F_is_row := fun_mk (st := s_is_row) l_is_row c_is_row k_is_row
  have b_is_row := F_is_row.binds (ps := ["value", "many"]) fun _ _ _ _ _ _ us hl => match us, hl with | [_, _], _ => rfl
  have m_is_row := PySem.W.mg_of X G a_is_row
  have F_is_table := fun_mk (st := s_is_table) l_is_table c_is_table k_is_table
  have b_is_table := F_is_table.binds (ps := ["pairs"]) fun _ _ _ _ _ _ us hl => match us, hl with | [_], _ => rfl
  have m_is_table := PySem.W.mg_of X G a_is_table
  have F_is_arguments := fun_mk (st := s_is_arguments) l_is_arguments c_is_arguments k_is_arguments
  have b_is_arguments := F_is_arguments.binds (ps := ["things"]) fun _ _ _ _ _ _ us hl => match us, hl with | [_], _ => rfl
  have m_is_arguments := PySem.W.mg_of X G a_is_arguments
  have F_value_of : FunC K "value_of" "value_of" s_value_of f_value_of _ cc_value_of := ⟨⟨_, _, _, _, _, _, _, _, rfl, l_value_of, c_value_of⟩, k_value_of⟩
  have F0_value_of := fun_mk (st := s_value_of) l_value_of c_value_of k_value_of
  have b_value_of := F0_value_of.binds (ps := ["meaning", "term", "values"]) fun _ _ _ _ _ _ us hl => match us, hl with | [_, _, _], _ => rfl
  have m_value_of := PySem.W.mg_of X G a_value_of
  have F_L_source := fun_mk (st := s__law_source) l_L_source c_L_source k_L_source
  have b_L_source := F_L_source.binds (ps := ["_law_script"]) fun _ _ _ _ _ _ us hl => match us, hl with | [_], _ => rfl
  have m_L_source := PySem.W.mg_of X G a_L_source
  have F_L_pick := fun_mk (st := s__law_pick) l_L_pick c_L_pick k_L_pick
  have b_L_pick := F_L_pick.binds (ps := ["_law_source_here", "_law_many"]) fun _ _ _ _ _ _ us hl => match us, hl with | [_, _], _ => rfl
  have m_L_pick := PySem.W.mg_of X G a_L_pick
  have F_L_of := fun_mk (st := s__law_of) l_L_of c_L_of k_L_of
  have b_L_of := F_L_of.binds (ps := ["_law_source_here", "_law_some"]) fun _ _ _ _ _ _ us hl => match us, hl with | [_, _], _ => rfl
  have m_L_of := PySem.W.mg_of X G a_L_of
  have F_L_word := fun_mk (st := s__law_word) l_L_word c_L_word k_L_word
  have b_L_word := F_L_word.binds (ps := ["_law_source_here", "_law_most"]) fun _ _ _ _ _ _ us hl => match us, hl with | [_, _], _ => rfl
  have m_L_word := PySem.W.mg_of X G a_L_word
  have F_L_primitives := fun_mk (st := s__law_primitives) l_L_primitives c_L_primitives k_L_primitives
  have b_L_primitives := F_L_primitives.binds (ps := ["_law_source_here"]) fun _ _ _ _ _ _ us hl => match us, hl with | [_], _ => rfl
  have m_L_primitives := PySem.W.mg_of X G a_L_primitives
  have F_L_variables := fun_mk (st := s__law_variables) l_L_variables c_L_variables k_L_variables
  have b_L_variables := F_L_variables.binds (ps := ["_law_source_here", "_law_many"]) fun _ _ _ _ _ _ us hl => match us, hl with | [_, _], _ => rfl
  have m_L_variables := PySem.W.mg_of X G a_L_variables
  have F_L_term := fun_mk (st := s__law_term) l_L_term c_L_term k_L_term
  have b_L_term := F_L_term.binds (ps := ["_law_source_here", "_law_primitives_here", "_law_some", "_law_deep"]) fun _ _ _ _ _ _ us hl => match us, hl with | [_, _, _, _], _ => rfl
  have m_L_term := PySem.W.mg_of X G a_L_term
  have F_L_put := fun_mk (st := s__law_put) l_L_put c_L_put k_L_put
  have b_L_put := F_L_put.binds (ps := ["_law_term_here", "_law_table"]) fun _ _ _ _ _ _ us hl => match us, hl with | [_, _], _ => rfl
  have m_L_put := PySem.W.mg_of X G a_L_put
  have F_L_value := fun_mk (st := s__law_value) l_L_value c_L_value k_L_value
  have b_L_value := F_L_value.binds (ps := ["_law_known", "_law_term_here", "_law_values"]) fun _ _ _ _ _ _ us hl => match us, hl with | [_, _, _], _ => rfl
  have m_L_value := PySem.W.mg_of X G a_L_value
  have F_L_grown := fun_mk (st := s__law_grown) l_L_grown c_L_grown k_L_grown
  have b_L_grown := F_L_grown.binds (ps := ["_law_source_here", "_law_known", "_law_term_here", "_law_values"]) fun _ _ _ _ _ _ us hl => match us, hl with | [_, _, _, _], _ => rfl
  have m_L_grown := PySem.W.mg_of X G a_L_grown
  have F_L_ring_right := fun_mk (st := s__law_ring_right) l_L_ring_right c_L_ring_right k_L_ring_right
  have b_L_ring_right := F_L_ring_right.binds (ps := ["_law_source_here"]) fun _ _ _ _ _ _ us hl => match us, hl with | [_], _ => rfl
  have m_L_ring_right := PySem.W.mg_of X G a_L_ring_right
  have F_Law := fun_mk (st := s_law) l_Law c_Law k_Law
  have b_Law := F_Law.binds (ps := ["_law_script"]) fun _ _ _ _ _ _ us hl => match us, hl with | [_], _ => rfl
  have m_Law := PySem.W.mg_of X G a_Law
  have F_init := fun_mk (st := s_Meaning___init__) l_init c_init k_init
  have b_init := F_init.binds (ps := ["self", "tables"]) fun _ _ _ _ _ _ us hl => match us, hl with | [_, _], _ => rfl
  have F_apply := fun_mk (st := s_Meaning_apply) l_apply c_apply k_apply
  have b_apply := F_apply.binds (ps := ["self", "name", "things"]) fun _ _ _ _ _ _ us hl => match us, hl with | [_, _, _], _ => rfl
  have m_LETTERS := PySem.W.mg_of X G a_LETTERS
  have m_DIGITS := PySem.W.mg_of X G a_DIGITS
  have m_LONGEST := PySem.W.mg_of X G a_LONGEST
  have m_Meaning := PySem.W.mg_of X G a_Meaning
  have MT : MTxt K C := ⟨⟨k_pg, k_hd, k_po, k_sa⟩, k_nT⟩
  have ne : t_put_in ≠ t_value_of := by
    intro z
    rw [z, beq_self_eq_true] at t_ne
    cases t_ne
  refine ⟨PySem.W.fnOf "law" "law" (defArgs s_law) (defBody s_law) (defScope s_law) .none kV_Law dc_Law pm_Law an_Law cd_Law ct_Law, [(cc_put_in, t_put_in), (cc_value_of, t_value_of)], spLaw K [(t_put_in, q_put_in), (t_value_of, q_value_of)], ?_, ?_, fun s v => .of_eq rfl, ?_, fun base kb nb TB => ?_⟩
  · intro p hp
    simp only [List.mem_cons, List.not_mem_nil, or_false] at hp
    rcases hp with rfl | rfl
    · exact ⟨"put_in", by simp, t_at_put_in⟩
    · exact ⟨"value_of", by simp, t_at_value_of⟩
  · intro p hp
    simp only [List.mem_cons, List.not_mem_nil, or_false] at hp
    rcases hp with rfl | rfl
    · exact t_off_put_in
    · exact t_off_value_of
  · intro H a ns hl hH hS
    refine ⟨a, ns, rfl, hS, hl, fun p hp => ?_, fun _ => rfl⟩
    simp only [List.mem_cons, List.not_mem_nil, or_false] at hp
    rcases hp with rfl | rfl
    · exact TabS.nil (hH (cc_put_in, t_put_in) (by simp))
    · exact TabS.nil (hH (cc_value_of, t_value_of) (by simp))
  have hu1 : ∀ p ∈ [(t_put_in, q_put_in), (t_value_of, q_value_of)], p.1 = t_put_in → p.2 = q_put_in := by
    intro p hp e
    simp only [List.mem_cons, List.not_mem_nil, or_false] at hp
    rcases hp with rfl | rfl
    · rfl
    · exact absurd e.symm ne
  have hu2 : ∀ p ∈ [(t_put_in, q_put_in), (t_value_of, q_value_of)], p.1 = t_value_of → p.2 = q_value_of := by
    intro p hp e
    simp only [List.mem_cons, List.not_mem_nil, or_false] at hp
    rcases hp with rfl | rfl
    · exact absurd e ne
    · rfl
  have Hpick : Has P w K mg base 1 "_law_pick" _ spPick := ⟨_, _, ok_pick F_L_pick n_int, m_L_pick, k_L_pick, b_L_pick⟩
  have Hof : Has P w K mg base 2 "_law_of" _ (spOf K) := ⟨_, _, ok_of F_L_of n_len Hpick, m_L_of, k_L_of, b_L_of⟩
  have Hword : Has P w K mg base 2 "_law_word" _ spWord := ⟨_, _, ok_word F_L_word n_range Hpick, m_L_word, k_L_word, b_L_word⟩
  have terms := ok_term (P := P) (w := w) (base := base) F_L_term m_L_term b_L_term n_range n_tuple Hpick Hof
  have fold : ∀ b : Heap, K.In b → b.Ns mainGlobals mg → FnOk P w K mg b CX0 2 f_folded _ _ (spFolded P w K mg 1 b) := fun b _ _ => ok_folded (kl := 1) F_folded n_len n_tuple n_reversed
  have fold2 : ∀ b : Heap, K.In b → b.Ns mainGlobals mg → FnOk P w K mg b CX0 3 f_folded _ _ (spFolded P w K mg 2 b) := fun b _ _ => ok_folded (kl := 2) F_folded n_len n_tuple n_reversed
  have Hput : Has P w K mg base 3 "put_in" _ (spPutIn K w [(t_put_in, q_put_in), (t_value_of, q_value_of)]) := ⟨_, _, ok_put_in F_put_in fold m_folded k_folded b_folded (TB (cc_put_in, t_put_in) (by simp)) (by simp) hu1, m_put_in, k_put_in, b_put_in⟩
  have Hval : Has P w K mg base 4 "value_of" _ (spValueOf K w C [(t_put_in, q_put_in), (t_value_of, q_value_of)]) := ⟨_, _, ok_value_of F_value_of fold2 m_folded k_folded b_folded (TB (cc_value_of, t_value_of) (by simp)) MT ⟨a_apply, k1_apply, k_apply⟩ F_apply b_apply n_tuple (by simp) hu2, m_value_of, k_value_of, b_value_of⟩
  have Hnum : Has P w K mg base 1 "is_number" _ spTrueN := ⟨_, _, ok_is_number F_is_number n_isinstance n_int n_bool, m_is_number, k_is_number, b_is_number⟩
  have Hwd : Has P w K mg base 1 "is_word" _ spTrueW := ⟨_, _, ok_is_word F_is_word n_isinstance n_str n_len n_all m_LETTERS m_DIGITS m_LONGEST, m_is_word, k_is_word, b_is_word⟩
  have Hlst : Has P w K mg base 1 "is_list" _ (spIsList K) := ⟨_, _, ok_is_list F_is_list n_isinstance n_list n_tuple, m_is_list, k_is_list, b_is_list⟩
  have Hrow : Has P w K mg base 1 "is_row" _ (spIsRow K) := ⟨_, _, ok_is_row F_is_row n_isinstance n_len n_tuple, m_is_row, k_is_row, b_is_row⟩
  have Hargs : Has P w K mg base 2 "is_arguments" _ (spIsArgs K) := ⟨_, _, ok_is_arguments F_is_arguments n_isinstance n_len n_tuple n_all Hnum, m_is_arguments, k_is_arguments, b_is_arguments⟩
  have Htab : Has P w K mg base 3 "is_table" _ (spIsTable K) := ⟨_, _, ok_is_table F_is_table n_len n_all Hlst Hrow Hargs Hnum, m_is_table, k_is_table, b_is_table⟩
  have HM : HasM P w K mg base C := ⟨_, _, ⟨k_mk, a_init, k1_init, k_kc⟩, ok_init F_init MT n_isinstance n_dict Hwd Htab, m_Meaning, b_init⟩
  have O : Own P w K mg base C [(t_put_in, q_put_in), (t_value_of, q_value_of)] := ⟨⟨_, _, ok_source F_L_source n_int n_abs, m_L_source, k_L_source, b_L_source⟩, Hpick, Hof,
    ⟨_, _, ok_primitives F_L_primitives n_len n_str Hpick Hword, m_L_primitives, k_L_primitives, b_L_primitives⟩,
    ⟨_, _, ok_variables F_L_variables n_range Hpick Hword, m_L_variables, k_L_variables, b_L_variables⟩,
    ⟨_, _, terms 5, m_L_term, k_L_term, b_L_term⟩,
    ⟨_, _, ok_put F_L_put m_L_put b_L_put n_tuple 5, m_L_put, k_L_put, b_L_put⟩,
    ⟨_, _, ok_grown F_L_grown m_L_grown b_L_grown n_tuple Hpick Hof 7, m_L_grown, k_L_grown, b_L_grown⟩,
    ⟨_, _, ok_lawvalue F_L_value m_L_value b_L_value n_tuple 7, m_L_value, k_L_value, b_L_value⟩, Hput, Hval, HM,
    ⟨_, _, ok_ring F_L_ring_right n_range n_int Hpick HM Hval, m_L_ring_right, k_L_ring_right, b_L_ring_right⟩⟩
  exact ok_law F_Law ⟨n_range, n_repr, n_isinstance, n_tuple, n_dict, n_list, n_bool⟩ O
theorem walk {l : PySem.W.OpenLaw} {q : Program} {loose : List Str} {XP : (Str → Option Value) → Heap → Prop} {YP : World → Heap → Prop} {d : DefRec} {K : Params → PySem.W.Frag} {dp dd : DefRec}
    (hn : l.most = some 63) (hdf : d.params.defaults = []) (hY : ∀ (w : World) (h : Heap), YP w h → (K w.params).In h) (h1 : (recsOf q).find? (fun e => e.name == ("put_in" : Str)) = some dp) (h2 : (recsOf q).find? (fun e => e.name == ("value_of" : Str)) = some dd)
    (F : ∀ (w : World) (mg : Str → Option Value) (fa : Addr) (h : Heap), (K w.params).In h → h.Ns mainGlobals mg → mg d.name = some (.ref fa) →
      ∃ (fd : FuncData) (cs : List (Addr × Addr)) (sp : Sp), (∀ p ∈ cs, ∃ y ∈ [("put_in" : Str), "value_of"], PySem.W.tabIn (K w.params) y = some p) ∧ (∀ p ∈ cs, (K w.params).lookup p.2 = none) ∧ (∀ (s : Shared) (u : Value), BindsTo s fd ⟨[u], []⟩ [("_law_script", u)]) ∧
        (∀ (H : Hp) (a : Addr) (ns : List Int), ns.length ≤ 63 → (∀ p ∈ cs, H p.2 = some (.tbl #[])) → SqL (K w.params) H a (ns.map V.int) → sp [.ref a] H (fun v _ => v = .bl true) fun _ _ _ => False) ∧
        ∀ base : Heap, (K w.params).In base → base.Ns mainGlobals mg → (∀ p ∈ cs, TabB base mg p.1 p.2) → FnG l.prog w (K w.params) mg base CX0 10 fa fd ["_law_script"] sp) :
    PySem.W.WalkO q loose XP YP l.row.toRowW d [] (fun f vs => PySem.call f vs) :=
  walk_ofGT (n := 63) (k := 10) (x := "_law_script") (names := ["put_in", "value_of"]) hn (by decide) hdf ⟨rfl, by decide, by decide⟩ hY (fun y hy => by
    simp only [List.mem_cons, List.not_mem_nil, or_false] at hy
    rcases hy with rfl | rfl
    · exact ⟨_, h1⟩
    · exact ⟨_, h2⟩) F
end L2.Vf.K14
open PySem PySem.W PyProof.Rows
set_option maxRecDepth 100000 in
set_option maxHeartbeats 0 in
theorem PySem.Challenge.cw_movedactors_k14_values_of_terms_holds : PySem.Challenge.rw_movedactors_k14_values_of_terms.Holds := by
  w_on; o_law; k_head; (case hw => w_witness2)
  k_fill
  refine L2.Vf.K14.walk (l := PySem.Challenge.rw_movedactors_k14_values_of_terms) rfl rfl (fun w h Y => PySem.W.km_in_of Y) rfl rfl ?F
  case F =>
    intro w mg fa h KX G hmg
    refine' L2.Vf.K14.all_mk (t_put_in := 33) (t_value_of := 127) KX G hmg ?a_is_word ?l_is_word ?c_is_word ?k_is_word ?a_is_number ?l_is_number ?c_is_number ?k_is_number ?a_folded ?l_folded ?c_folded ?k_folded ?a_put_in ?l_put_in ?c_put_in ?k_put_in ?a_is_list ?l_is_list ?c_is_list ?k_is_list ?a_is_row ?l_is_row ?c_is_row ?k_is_row ?a_is_table ?l_is_table ?c_is_table ?k_is_table ?a_is_arguments ?l_is_arguments ?c_is_arguments ?k_is_arguments ?a_value_of ?l_value_of ?c_value_of ?k_value_of ?a_L_source ?l_L_source ?c_L_source ?k_L_source ?a_L_pick ?l_L_pick ?c_L_pick ?k_L_pick ?a_L_of ?l_L_of ?c_L_of ?k_L_of ?a_L_word ?l_L_word ?c_L_word ?k_L_word ?a_L_primitives ?l_L_primitives ?c_L_primitives ?k_L_primitives ?a_L_variables ?l_L_variables ?c_L_variables ?k_L_variables ?a_L_term ?l_L_term ?c_L_term ?k_L_term ?a_L_put ?l_L_put ?c_L_put ?k_L_put ?a_L_value ?l_L_value ?c_L_value ?k_L_value ?a_L_grown ?l_L_grown ?c_L_grown ?k_L_grown ?a_L_ring_right ?l_L_ring_right ?c_L_ring_right ?k_L_ring_right ?a_Law ?l_Law ?c_Law ?k_Law ?a_Meaning ?a_init ?k1_init ?l_init ?c_init ?k_init ?a_apply ?k1_apply ?l_apply ?c_apply ?k_apply ?k_pg ?k_hd ?k_po ?k_sa ?k_mk ?k_kc ?k_nT ?a_LETTERS ?a_DIGITS ?a_LONGEST ?z_int ?z_abs ?z_len ?z_range ?z_str ?z_tuple ?z_list ?z_dict ?z_repr ?z_isinstance ?z_reversed ?z_all ?z_bool ?t_at_put_in ?t_off_put_in ?t_at_value_of ?t_off_value_of ?t_ne
    (case a_is_word => k_is)
    (case l_is_word => k_is)
    (case c_is_word => k_is)
    (case k_is_word => k_is)
    (case a_is_number => k_is)
    (case l_is_number => k_is)
    (case c_is_number => k_is)
    (case k_is_number => k_is)
    (case a_folded => k_is)
    (case l_folded => k_is)
    (case c_folded => k_is)
    (case k_folded => k_is)
    (case a_put_in => k_is)
    (case l_put_in => k_is)
    (case c_put_in => k_is)
    (case k_put_in => k_is)
    (case a_is_list => k_is)
    (case l_is_list => k_is)
    (case c_is_list => k_is)
    (case k_is_list => k_is)
    (case a_is_row => k_is)
    (case l_is_row => k_is)
    (case c_is_row => k_is)
    (case k_is_row => k_is)
    (case a_is_table => k_is)
    (case l_is_table => k_is)
    (case c_is_table => k_is)
    (case k_is_table => k_is)
    (case a_is_arguments => k_is)
    (case l_is_arguments => k_is)
    (case c_is_arguments => k_is)
    (case k_is_arguments => k_is)
    (case a_value_of => k_is)
    (case l_value_of => k_is)
    (case c_value_of => k_is)
    (case k_value_of => k_is)
    (case a_L_source => k_is)
    (case l_L_source => k_is)
    (case c_L_source => k_is)
    (case k_L_source => k_is)
    (case a_L_pick => k_is)
    (case l_L_pick => k_is)
    (case c_L_pick => k_is)
    (case k_L_pick => k_is)
    (case a_L_of => k_is)
    (case l_L_of => k_is)
    (case c_L_of => k_is)
    (case k_L_of => k_is)
    (case a_L_word => k_is)
    (case l_L_word => k_is)
    (case c_L_word => k_is)
    (case k_L_word => k_is)
    (case a_L_primitives => k_is)
    (case l_L_primitives => k_is)
    (case c_L_primitives => k_is)
    (case k_L_primitives => k_is)
    (case a_L_variables => k_is)
    (case l_L_variables => k_is)
    (case c_L_variables => k_is)
    (case k_L_variables => k_is)
    (case a_L_term => k_is)
    (case l_L_term => k_is)
    (case c_L_term => k_is)
    (case k_L_term => k_is)
    (case a_L_put => k_is)
    (case l_L_put => k_is)
    (case c_L_put => k_is)
    (case k_L_put => k_is)
    (case a_L_value => k_is)
    (case l_L_value => k_is)
    (case c_L_value => k_is)
    (case k_L_value => k_is)
    (case a_L_grown => k_is)
    (case l_L_grown => k_is)
    (case c_L_grown => k_is)
    (case k_L_grown => k_is)
    (case a_L_ring_right => k_is)
    (case l_L_ring_right => k_is)
    (case c_L_ring_right => k_is)
    (case k_L_ring_right => k_is)
    (case a_Law => k_is)
    (case l_Law => k_is)
    (case c_Law => k_is)
    (case k_Law => k_is)
    (case a_Meaning => k_is)
    (case a_init => k_is)
    (case k1_init => k_is)
    (case l_init => k_is)
    (case c_init => k_is)
    (case k_init => k_is)
    (case a_apply => k_is)
    (case k1_apply => k_is)
    (case l_apply => k_is)
    (case c_apply => k_is)
    (case k_apply => k_is)
    (case k_pg => k_is)
    (case k_hd => k_is)
    (case k_po => k_is)
    (case k_sa => k_is)
    (case k_mk => k_is)
    (case k_kc => k_is)
    (case k_nT => k_is)
    (case a_LETTERS => k_is)
    (case a_DIGITS => k_is)
    (case a_LONGEST => k_is)
    (case z_int => k_is)
    (case z_abs => k_is)
    (case z_len => k_is)
    (case z_range => k_is)
    (case z_str => k_is)
    (case z_tuple => k_is)
    (case z_list => k_is)
    (case z_dict => k_is)
    (case z_repr => k_is)
    (case z_isinstance => k_is)
    (case z_reversed => k_is)
    (case z_all => k_is)
    (case z_bool => k_is)
    (case t_at_put_in => first | k_is | kernel_rfl | rfl)
    (case t_off_put_in => first | k_is | kernel_rfl | rfl)
    (case t_at_value_of => first | k_is | kernel_rfl | rfl)
    (case t_off_value_of => first | k_is | kernel_rfl | rfl)
    (case t_ne => first | k_is | kernel_rfl | rfl)
