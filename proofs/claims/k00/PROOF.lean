import PyProof.Rows.All
import Wide.All
import OpenK.AllK
import Wide.FinOn
import HandS.ForMost
import HandS.Exc
import HandS.ExcOwn
import HandS.ExcInit
import HandS.ExcValue
import HandS.IsInst
import HandS.ExcIs
import HandS.ExcField
import KE.KExcIs
import KE.KExcInit
import HandS.Evl
import HandS.Dict
import PyProof.ReprRoads
import PySem.Challenge.RW_movedactors_k00_errors
set_option Elab.async false
set_option linter.all false
set_option maxRecDepth 100000
set_option maxHeartbeats 4000000
/-! Exceptions as values: made by a call of their class, told their fields, asked for their kind. -/
namespace PySem
namespace VfX
open PySem.W PySem.Calls PyProof.Rows
open Builtin Builtin.ObjectAttr

/-- own classes ahead of a built-in class's line -/
def refsT (tl : List Value) : List Value → Bool
  | .ref c :: r => refsT tl r || decide (Value.ref c :: r = tl)
  | l => decide (l = tl)
theorem refsT_cases (tl : List Value) : ∀ l : List Value, refsT tl l = true →
    (∃ c r, l = .ref c :: r ∧ refsT tl r = true) ∨ l = tl := by
  intro l h
  unfold refsT at h
  split at h
  · rename_i c r
    rcases Bool.or_eq_true_iff.mp h with q | q
    · exact .inl ⟨c, r, rfl, q⟩
    · exact .inr (of_decide_eq_true q)
  · exact .inr (of_decide_eq_true h)

/-- what a built-in exception's line says -/
structure Tl (tl : List Value) : Prop where
  pass : ∀ self, refuseLoop self "__setattr__" tl = pure ()
  obj : tl.contains (.type "object") = true
  ne : tl ≠ []
theorem tlVE : Tl [.type "ValueError", .type "Exception", .type "BaseException", .type "object"] :=
  ⟨fun s => F.store_ValueError.passes s, by decide +kernel, by decide⟩
theorem tlLE : Tl [.type "LookupError", .type "Exception", .type "BaseException", .type "object"] :=
  ⟨fun s => F.store_LookupError.passes s, by decide +kernel, by decide⟩
variable {tl : List Value}
theorem refsT_pass (T : Tl tl) (self : Value) : ∀ l : List Value, refsT tl l = true → refuseLoop self "__setattr__" l = pure () := by
  intro l
  induction l with
  | nil =>
    intro e
    rcases refsT_cases tl [] e with ⟨c, r, q, _⟩ | q
    · cases q
    · exact absurd q.symm T.ne
  | cons a r ih =>
    intro e
    rcases refsT_cases tl (a :: r) e with ⟨c, r', q, h⟩ | q
    · obtain ⟨rfl, rfl⟩ := List.cons.inj q
      rw [refuseLoop_ref]
      exact ih h
    · rw [q]
      exact T.pass self
theorem refsT_has (Y : String) : ∀ l : List Value, refsT tl l = true → l.contains (.type Y) = tl.contains (.type Y) := by
  intro l
  induction l with
  | nil =>
    intro e
    rcases refsT_cases tl [] e with ⟨c, r, q, _⟩ | q
    · cases q
    · rw [q]
  | cons a r ih =>
    intro e
    rcases refsT_cases tl (a :: r) e with ⟨c, r', q, h⟩ | q
    · obtain ⟨rfl, rfl⟩ := List.cons.inj q
      rw [List.contains_cons, ih h]
      rfl
    · rw [q]
theorem refsT_some (T : Tl tl) {l : List Value} (e : refsT tl l = true) : l.isEmpty = false := by
  rcases refsT_cases tl l e with ⟨c, r, q, _⟩ | q
  · rw [q]
    rfl
  · rw [q]
    cases tl with
    | nil => exact absurd rfl T.ne
    | cons _ _ => rfl

section
variable {prog : Program} {w : World} {A : Around} {R : Result → Shared → Prop} {hp : Heap} {g : Array GenState} {d : Drawn} {t : Nat} {os : OsState}
variable {K : W.Frag} {name : Str} {tk : Tok} {v : Value} {x C dx : Addr} {fv : Array Value} {cd : ClassData} {m0 : Str → Option Value} {nl : List Str}
/-- the first field of an exception of any line -/
theorem osa_first (T : Tl tl) (X : K.In hp) (hx : hp.get? x = some { cls := .ref C, data := .fields fv })
    (hcd : W.clsIn K C = some cd) (hm : refsT tl cd.mro = true) (hh : cd.hasDict = true) (ha : W.findIn K (.ref C) name = some none)
    (hq : ∀ h' tk' dx, (∀ b o, b ≠ x → hp.get? b = some o → h'.get? b = some o) → hp.objs.size ≤ dx → dx ≠ x →
      h'.get? x = some { cls := .ref C, dict := some dx, data := .fields fv } →
      h'.Ns1 dx (fun y => if y = name then some v else none) → R (.ok (.ret .none)) ⟨h', g, d, tk', os⟩) :
    codeAny (model prog w) A (.call (.builtin "object.__setattr__") ⟨[.ref x, .str name tk, v], []⟩) R ⟨hp, g, d, t, os⟩ := by
  have inst : W.InstAt hp x { cls := .ref C, data := .fields fv } C none := ⟨hx, rfl, rfl, trivial⟩
  have S := F.store_object
  have nempty := refsT_some T hm
  have isob : cd.mro.contains (.type "object") = true := (refsT_has "object" _ hm).trans T.obj
  have xnew : x ≠ hp.objs.size := Nat.ne_of_lt (Heap.lt_size hx)
  have lookSub : W.Looks (model prog w) hp (isInstance (.ref x) (.type "object")) true :=
    inst.type.andThen (W.looks_mroIn X (by unfold W.mroIn; rw [hcd, Option.bind_some, if_neg (by rw [nempty]; decide), isob]))
  refine codeAny_call_builtin S.slot.plain S.entry
    (@W.check_slot (model prog w) _ _ ⟨hp, g, d, t, os⟩ "object.__setattr__" "object" "__setattr__" (.ref x) [.str name tk, v] [] _
      S.kind S.split lookSub (S.args (.ref x) (.str name tk) v) ?_)
  have lookMro : W.Looks (model prog w) hp (mroOf (.ref C)) cd.mro := (W.looks_clsIn X hcd).andThen .now
  have lookTaker : W.Looks (model prog w) hp (storeTaker? none) none := .now
  have lookCls : W.Looks (model prog w) hp (classData C) cd := W.looks_clsIn X hcd
  rw [W.osa_eq, refuse_eq]
  refine wpAny_bind (wpAny_bind (inst.type.at (wpAny_bind (lookMro.at ?_))))
  rw [refsT_pass T _ _ hm]
  refine wpAny_pure (wpAny_bind (inst.type.at (wpAny_bind ((W.looks_findIn X ha).at (wpAny_bind (lookTaker.at ?_))))))
  show wpAny _ _ (storeInOwnDict (.ref x) (.ref C) (.str name tk) name v false) _ _ _
  obtain ⟨nm, bs, mro, ns, qn, hd, sn, sb, ab, col, del⟩ := cd
  dsimp only at hh
  subst hh
  unfold storeInOwnDict ownDictForStores
  repeat (first
    | with_reducible refine PySem.HandSPX.store_in_new ?_ ?_
    | with_reducible refine wpAny_loadPart_at hx ?_
    | with_reducible refine lookCls.at ?_
    | wp_step)
  · exact ⟨_, #[], _, (Heap.get?_update_ne _ _ _ _ xnew.symm).trans (Heap.get?_push_at rfl rfl), rfl, fun e he => absurd he (by simp), fun _ => rfl⟩
  · intro h' tk' hn' hs
    have stays : (hp.push { cls := .type "dict", data := .dict #[] }).get? x = some { cls := .ref C, data := .fields fv } := Heap.get?_push_of_some _ hx
    refine hq h' tk' hp.objs.size (fun b o hb ho => ?_) (Nat.le_refl _) xnew.symm ?_ hn'
    · exact (hs.2 b (Nat.ne_of_lt (Heap.lt_size ho))).trans ((Heap.get?_update_ne _ _ _ _ hb).trans (Heap.get?_push_of_some _ ho))
    · exact (hs.2 x xnew).trans (Heap.get?_update_self _ stays rfl)
end
end VfX
end PySem

namespace L2.Vf
open PySem PySem.Spec PyProof.Rows

/-- what the written part says of an own exception class at C whose line ends in tl -/
structure Xcl (K : PySem.W.Frag) (C : Addr) (tl : List Value) (newId : String) : Prop where
  cls : ∃ nm q N bs bm sn sub ab col dd k0 k1 k2 k3 k5,
    K.lookup C = some (excClassObj nm q C N bs bm true sn sub ab col dd k0 k1 k2 k3 k5 newId) ∧ VfX.refsT tl bm = true
  sa : PySem.W.findIn K (.ref C) "__setattr__" = some (some (.builtin "object.__setattr__"))
  kp : PySem.W.keepIn K (.ref C) = true

section
variable {X : Cx} {pins : List (Addr × Obj)} {σ : St} {H : Hp} {s : Shared} {a C dx CA : Addr} {f b : Str} {y : V} {u : Value}
variable {A : Around} {tl : List Value} {B newId initId : String} {e o : Expr} {es : List Expr} {te to : TE} {ta : TA} {p p' p1 p2 pos : Pos}

theorem first_field {Q : Unit → Shared → Prop} {E : Value → Shared → Prop} (T : VfX.Tl tl) (W : Xcl X.K C tl newId) (I : Inv X pins σ H s)
    (ex : H a = some (exo a C none)) (no : PySem.W.findIn X.K (.ref C) f = some none) (ry : RelV y u)
    (h : ∀ dx s', H dx = none → dx ≠ a → Inv X pins σ (upd (upd H dx (exd dx [(f, y)])) a (exo a C (some dx))) s' → Q () s') :
    wpAny (model X.prog X.w) A (setAttr (.ref a) f u) Q E s := by
  obtain ⟨nm, q, N, bs, bm, sn, sub, ab, col, dd, k0, k1, k2, k3, k5, hC, hbm⟩ := W.cls
  have hcl : PySem.W.clsIn X.K C = some { name := nm, bases := bs, mro := .ref C :: bm, ns := N, qualname := q, hasDict := true, slotNames := sn, subclasses := sub, abstract := ab, collection := col, hasDel := false } := by
    unfold PySem.W.clsIn
    rw [hC]
  have hmro : VfX.refsT tl (.ref C :: bm) = true := by
    unfold VfX.refsT
    rw [hbm]
    rfl
  obtain ⟨t1, ho⟩ := exo_at I.hok ex
  obtain ⟨hp, g, d, t, os⟩ := s
  refine PySem.W.set_plain I.kIn (od := none)
    (ox := { cls := .ref C, dict := none, data := .fields #[.ref t1, .none, .none, .none, .bool false, .none] })
    ⟨ho, rfl, rfl, trivial⟩ W.sa ?_
  refine VfX.osa_first T I.kIn ho hcl hmro rfl no fun h' tk' dx k dn dne hx hn => ?_
  have freeD : H dx = none := I.hok.fresh dn
  have offD : ∀ {c : Addr} {ob : Obj}, hp.get? c = some ob → c ≠ dx :=
    fun {c ob} z => Nat.ne_of_lt (Nat.lt_of_lt_of_le (Heap.lt_size z) dn)
  have offA : ∀ {c : Addr}, H c = none → c ≠ a := fun {c} n z => by
    rw [z, ex] at n
    cases n
  have un : Un X.fs [] H (upd (upd H dx (exd dx [(f, y)])) a (exo a C (some dx))) hp h' := {
    keep := fun c ob z n _ _ => k c ob (offA n) z
    slot := fun c ob z n _ _ => ⟨ob.slots, k c ob (offA n) z⟩
    free := fun c ob z n _ => by
      rw [upd_ne (offA n), upd_ne (offD z)]
      exact n
    there := fun c ob z _ => by
      by_cases hc : c = a
      · exact ⟨_, by rw [hc]; exact hx⟩
      · exact ⟨ob, k c ob hc z⟩
    tups := fun c xs z => by
      rw [upd_ne (at_ne ex z exo_tup), upd_ne (ne_of_none z freeD)]
      exact z
    frzs := fun c ob v z => by
      rw [upd_ne (at_ne ex z exo_frz), upd_ne (ne_of_none z freeD)]
      exact z
    tbls := fun c ps z => ⟨#[], by rw [upd_ne (at_ne ex z exo_tbl), upd_ne (ne_of_none z freeD), z]; simp⟩ }
  refine h dx _ freeD dne (I.un (t' := tk') un fun c ob z => ?_)
  by_cases hc : c = a
  · subst hc
    rw [upd_same] at z
    cases z
    exact exo_ok hx
  · rw [upd_ne hc] at z
    by_cases hd : c = dx
    · subst hd
      rw [upd_same] at z
      cases z
      exact exd_ok hn (relO_put (fs := []) ry fun _ => True.intro)
    · rw [upd_ne hd] at z
      refine (I.hok c ob z).stay (fun r v hr q => k r v ?_ q) (fun r hr => ?_) fun r xs hr => ?_
      · rcases hr with hr | hr
        · rw [hr]
          exact hc
        · exact at_ne ex hr exo_own
      · rw [upd_ne (at_ne ex hr exo_own), upd_ne (ne_of_none hr freeD)]
        exact hr
      · rw [upd_ne (at_ne ex hr exo_tup), upd_ne (ne_of_none hr freeD)]
        exact hr

/-- self.f = e, the first field of an exception -/
def tFirst (K : PySem.W.Frag) (tl : List Value) (newId : String) (f : Str) (to te : TE) : TS := fun D σ H =>
  te σ H fun y H1 => to σ H1 fun x H2 => ∃ a C : Addr, x = .ref a ∧ Xcl K C tl newId ∧ PySem.W.findIn K (.ref C) f = some none ∧
    H2 a = some (exo a C none) ∧ ∀ dx, H2 dx = none → dx ≠ a → D.nx σ (upd (upd H2 dx (exd dx [(f, y)])) a (exo a C (some dx)))
theorem ps_first (T : VfX.Tl tl) (ho : PE X o to) (he : PE X e te)
    (hs : swapsWith e (some (.Attribute o f p')) pos.line X.env = pure false := by rfl) :
    PS X (.Assign [.Attribute o f p'] e pos) (tFirst X.K tl newId f to te) := by
  refine ⟨fun pins s σ H D I h => ?_⟩
  refine plainObj_wpAny_Assign_Attribute (thn (he.run pins s σ H _ I h) fun v s1 ⟨y, H1, I1, r1, q1⟩ =>
    thn (ho.run pins s1 σ H1 _ I1 q1) fun w s2 ⟨x, H2, I2, r2, a, C, ex, W, no, ea, q⟩ => ?_) hs
  subst ex
  obtain rfl : w = Value.ref a := r2
  exact first_field T W I2 ea no r1 fun dx s' n ne J => ⟨σ, _, J, q dx n ne⟩

theorem base_init {us : List Value} {Q : Value → Shared → Prop} {E : Value → Shared → Prop} (F : ExcBaseFacts B newId initId tl)
    (W : Xcl X.K C tl newId) (I : Inv X pins σ H s) (ex : H a = some (exo a C none)) (hl : us.length ≤ sizeLine)
    (h : ∀ s', Inv X pins σ H s' → Q .none s') : wpAny (model X.prog X.w) A (call (.builtin initId) (.ref a :: us)) Q E s := by
  obtain ⟨nm, q, N, bs, bm, sn, sub, ab, col, dd, k0, k1, k2, k3, k5, hC, hbm⟩ := W.cls
  obtain ⟨t1, ho⟩ := exo_at I.hok ex
  obtain ⟨hp, g, d, t, os⟩ := s
  refine wpAny_call (PySem.HandSPX.init_base F (fun Y => VfX.refsT_has Y bm hbm) (I.kIn _ _ hC) ho hl fun h' t2 k hx => ?_)
  have J := I.write (t' := t) (x := a) (e := a) (o := exo a C none) (by rw [ex]; exact True.intro) (.inl rfl) k ⟨_, hx⟩ (exo_ok hx)
  have same : upd H a (exo a C none) = H := by
    funext c
    by_cases hc : c = a
    · rw [hc, upd_same, ex]
    · rw [upd_ne hc]
  rw [same] at J
  exact h _ J

/-- Base.__init__(self, ..), Base an own class that has none of its own -/
def tBaseI (K : PySem.W.Frag) (tl : List Value) (newId : String) (ta : TA) : TE := fun σ H Q => ta σ H fun vs H1 =>
  ∃ (a C : Addr) (ws : List V), vs = .ref a :: ws ∧ ws.length ≤ 1000 ∧ Xcl K C tl newId ∧ H1 a = some (exo a C none) ∧ Q .non H1
/-- Base.__init__ is the built-in one -/
structure BaseI (K : PySem.W.Frag) (CA : Addr) (initId : String) : Prop where
  ga : PySem.W.specialIn K (.ref CA) "__getattribute__" = some (some (.builtin "type.__getattribute__"))
  rd : PySem.W.readsIn K CA (.type "type") = true
  at_ : PySem.W.findCls K (.ref CA) (.type "type") "__init__" = some (.val (.builtin initId))
theorem pe_baseI {pl : Sem Bool} (F : ExcBaseFacts B newId initId tl) (M : BaseI X.K CA initId) (hg : Gl X b) (hm : X.mg b = some (.ref CA))
    (ha : PA X (e :: es) ta) (hin : PySem.W.handedIn (.builtin initId) = true := by decide +kernel) (hdb : (b == ("__debug__" : Str)) = false := by decide)
    (hc : eval (.Call (.Attribute (.Name b p1) "__init__" p2) (e :: es) [] pos) X.env = (do
      let ov ← eval (.Name b p1) X.env
      standAt p2.atName
      let (f, first) ← holding [ov] (getMethod ov "__init__" pl)
      callWith pos f first (backTo pos (starEach (e :: es) X.env)) (backToKw pos (keywordEach [] X.env))) := by rfl)
    (he : starEach (e :: es) X.env = (false, eval e X.env) :: starEach es X.env := by rfl)
    (hpl : (backTo pos (starEach es X.env)).any (·.1) = false := by rfl) :
    PE X (.Call (.Attribute (.Name b p1) "__init__" p2) (e :: es) [] pos) (tBaseI X.K tl newId ta) := by
  refine ⟨fun pins s σ H Q I h => ?_⟩
  refine PySem.W.methodCall_KW (ld_glob I hg hm ?_ hdb) hc
  refine PySem.W.method_cls I.kIn M.ga (PySem.W.cls_value I.kIn M.rd M.at_ hin ?_)
  show wpAny _ _ (callWith pos (Value.builtin initId) [] (backTo pos (starEach (e :: es) X.env)) []) _ _ _
  refine PyProof.Rows.callWith_method1 (thn (ha.run pos pins _ σ H _ (I.tok _) h)
    fun us s1 ⟨vs, H1, I1, r1, a, C, ws, ev, hl, W, ea, q⟩ => ?_) he hpl
  subst ev
  cases r1 with
  | @cons _ u0 _ ur ra rw' =>
    obtain rfl : u0 = Value.ref a := ra
    have hlen : ur.length ≤ sizeLine := by
      rw [← Paired.length rw', sizeLine_eq]
      omega
    exact base_init F W I1 ea hlen fun s' J => ⟨.non, H1, J, rfl, q⟩
/-- C(e, ..) as a value, C's own __init__ keeping sp -/
def tExcV (C : Addr) (sp : Sp) (ta : TA) : TE := fun σ H Q => ta σ H fun vs H1 => vs.length ≤ 1000 ∧ ∀ a, H1 a = none →
  sp (.ref a :: vs) (upd H1 a (exo a C none)) (fun v H2 => v = .non ∧ Q (.ref a) H2) (fun _ _ _ => False)
theorem pe_excV {CX : CXT} {x : Str} {fI : Addr} {k : Nat} {fd : FuncData} {ps : List Str} {sp : Sp} (F : ExcBaseFacts B newId initId tl)
    (W : Xcl X.K C tl newId) (iC : PySem.W.findIn X.K (.ref C) "__init__" = some (some (.ref fI)))
    (tI : PySem.W.typeIn X.K (.ref fI) = some (.type "function")) (F1 : FnOk X.prog X.w X.K X.mg X.base CX k fI fd ps sp)
    (hr : Room (k + 1) X.A) (hb : Binds X.K fd ps []) (hx : Passes CX X (fun _ _ _ => False)) (hg : Gl X x) (hm : X.mg x = some (.ref C))
    (ha : PA X (e :: es) ta) (hdb : (x == ("__debug__" : Str)) = false := by decide)
    (he : starEach (e :: es) X.env = (false, eval e X.env) :: starEach es X.env := by rfl)
    (hpl : (backTo pos (starEach es X.env)).any (·.1) = false := by rfl) :
    PE X (.Call (.Name x p) (e :: es) [] pos) (tExcV C sp ta) := by
  refine ⟨fun pins s σ H Q I h => ?_⟩
  obtain ⟨nm, q, N, bs, bm, sn, sub, ab, col, dd, k0, k1, k2, k3, k5, hC, hbm⟩ := W.cls
  refine wpAny_Call_Name_kw (ld_glob I hg hm ?_ hdb)
  refine PySem.W.callWith_K (h₀ := X.base) I.ok.mod.kin W.kp (thn (ha.run pos pins s σ H _ I h)
    fun us s1 ⟨vs, H1, I1, r1, hz, q1⟩ => ⟨I1.kIn, ?_⟩) he hpl
  show wpAny _ _ (call (.ref C) us) _ _ _
  obtain ⟨hp, g, dr, tk, os⟩ := s1
  have hsz : hp.objs.size ≤ hp.objs.size + 1 := Nat.le_succ _
  have hn : H1 (hp.objs.size + 1) = none := I1.hok.fresh hsz
  have hq := q1 (hp.objs.size + 1) hn
  have grown : ∀ b o, hp.get? b = some o → ((hp.push (PySem.W.kdv_tup us)).push (PySem.HandSPX.excO C hp.objs.size)).get? b = some o :=
    fun b o z => Heap.get?_push_of_some _ (Heap.get?_push_of_some _ z)
  have here : ((hp.push (PySem.W.kdv_tup us)).push (PySem.HandSPX.excO C hp.objs.size)).get? (hp.objs.size + 1) = some (PySem.HandSPX.excO C hp.objs.size) := by heap_get
  have I2 := I1.laid (t' := tk) (a := hp.objs.size + 1) (o := exo (hp.objs.size + 1) C none)
    (h' := (hp.push (PySem.W.kdv_tup us)).push (PySem.HandSPX.excO C hp.objs.size)) grown hsz (exo_ok here)
  have r2 : Vals (V.ref (hp.objs.size + 1) :: vs) (Value.ref (hp.objs.size + 1) :: us) := .cons rfl r1
  have hl : (Value.ref (hp.objs.size + 1) :: us).length = ps.length := by
    have z := r2.length
    rw [F1.len _ _ _ _ hq] at z
    exact z.symm
  have hus : us.length ≤ sizeLine := by
    rw [← Paired.length r1, sizeLine_eq]
    omega
  have hbind := hb _ (Value.ref (hp.objs.size + 1) :: us) I2.kIn (by rw [List.append_nil]; exact hl)
  rw [List.append_nil] at hbind
  refine wpAny_call (PySem.HandSPX.call_own F (fun Y => VfX.refsT_has Y bm hbm) (I1.kIn _ _ hC) (PySem.W.looks_findIn I1.kIn iC)
    (fun self => PySem.W.bind_fn I1.kIn self tI) hus
    (codeAny_mono (F1.run _ X.stack _ _ ⟨Value.ref (hp.objs.size + 1) :: us, []⟩ (Value.ref (hp.objs.size + 1) :: us) _ _ (fun _ _ _ => False)
      (hr.make C us []) (I2.env0.make C us []) hbind r2 hq) fun r s' hq' => ?_))
  cases r with
  | error er => exact hx pins σ _ _ er s' I2 hq'
  | ok fl =>
    cases fl with
    | ret u =>
      obtain ⟨v, H2, J, rv, ev, q2⟩ := I2.after hq'
      subst ev
      exact ⟨rv, .ref (hp.objs.size + 1), H2, J, rfl, q2⟩
    | next => exact False.elim hq'
    | brk => exact False.elim hq'
    | cont => exact False.elim hq'

/-- C() of an own exception class without an __init__ -/
theorem pe_excV0 {x : Str} (F : ExcBaseFacts B newId initId tl) (q : PySem.W.excIn X.K C tl newId = true) (gC : X.mg x = some (.ref C))
    (kC : PySem.W.keepIn X.K (.ref C) = true) (hg : Gl X x) (hdb : (x == ("__debug__" : Str)) = false := by decide) :
    PE X (.Call (.Name x p) [] [] pos) (fun _ H Q => ∀ a, H a = none → Q (.ref a) (upd H a (exo a C none))) := by
  refine ⟨fun pins s σ H Q I h => ?_⟩
  refine wpAny_Call_Name_kw (ld_glob I hg gC ?_ hdb)
  refine PySem.W.callWith_K0 I.kIn kC ?_
  show wpAny _ _ (call (.ref C) []) _ _ _
  obtain ⟨bm, N, nm, qn, bs, hdct, sn, sub, ab, col, dd, k0, k1, k2, k3, k5, mN, hC, hN, hni, T⟩ := exc_obj I.kIn q
  refine wpAny_call_exc_subT F T hC hN hni (fun h' a hm => ?_) (by show 0 ≤ sizeLine; exact Nat.zero_le _)
  have hn : H a = none := I.hok.gone hm.new
  obtain ⟨t, ht, _, _⟩ := hm.there
  exact ⟨.ref a, upd H a (exo a C none), I.laidN hm.keeps hm.new hn (exo_ok ht), rfl, h a hn⟩

/-! ### asked for their kind, told their fields -/
/-- what isinstance and a field's look want to know of the class D -/
structure Xask (K : PySem.W.Frag) (D : Addr) : Prop where
  cl : (PySem.W.clsIn K D).isSome = true
  hd : PySem.W.hasDictIn K D = true
  ga : PySem.W.findIn K (.ref D) "__getattribute__" = some (some (.builtin "BaseException.__getattribute__"))
  gg : PySem.W.findIn K (.ref D) "__getattr__" = some none
  ex : PySem.W.subIn K (.ref D) (.type "BaseException") = some true
  cc : PySem.W.findIn K (.ref D) "__class__" = some (some (.builtin "object.__class__"))
  cg : PySem.W.specialIn K (.builtin "object.__class__") "__get__" = some (some (.builtin "getset_descriptor.__get__"))
  ck : PySem.W.takesIn K (.builtin "object.__class__") = some true
  ob : PySem.W.mroIn K D (.type "object") = some true
/-- an exception of D stands at a, with the fields fs -/
def ExAt (H : Hp) (a D : Addr) (fs : List (Str × V)) : Prop :=
  (H a = some (exo a D none) ∧ fs = []) ∨ ∃ dx, H a = some (exo a D (some dx)) ∧ H dx = some (exd dx fs)
theorem ExAt.at_ {D : Addr} {fs : List (Str × V)} (h : ExAt H a D fs) : ∃ d, H a = some (exo a D d) := by
  rcases h with ⟨h, _⟩ | ⟨dx, h, _⟩
  · exact ⟨_, h⟩
  · exact ⟨_, h⟩
theorem inst_at {D : Addr} {fs : List (Str × V)} (I : Inv X pins σ H s) (h : ExAt H a D fs) : ∃ ox od, PySem.W.InstAt s.heap a ox D od := by
  rcases h with ⟨h, _⟩ | ⟨dx, h, hd⟩
  · obtain ⟨t1, ho⟩ := exo_at I.hok h
    exact ⟨_, none, ho, rfl, rfl, True.intro⟩
  · obtain ⟨t1, ho⟩ := exo_at I.hok h
    obtain ⟨mA, hns, _⟩ := exd_at I.hok hd
    obtain ⟨od, hod, _⟩ := lookIn_ns hns
    exact ⟨_, some od, ho, rfl, rfl, hod⟩
/-- isinstance(e, c) -/
def rIsX (K : PySem.W.Frag) : List V → Hp → VK → Prop := fun xs H Q => ∃ (a D : Addr) (fs : List (Str × V)) (c : V) (cv : Value) (b : Bool),
  xs = [.ref a, c] ∧ ExAt H a D fs ∧ Xask K D ∧ ClsV c cv ∧ PySem.W.kitOne K (.ref D) cv = some b ∧ Q (.bl b) H
theorem call_isX : CallR X (.builtin "isinstance") (rIsX X.K) := by
  intro pins s σ H xs us Q I r h
  obtain ⟨a, D, fs, c, cv, b, rfl, hx, T, hcv, hk, q⟩ := h
  cases r with
  | cons rx rr =>
    cases rr with
    | cons rt rr =>
      cases rr
      cases rx
      have ec := hcv.eq rt
      subst ec
      obtain ⟨ox, od, J⟩ := inst_at I hx
      exact PySem.W.kia_one (PySem.W.kitx_exc T.cl T.ga T.gg T.ex T.cc T.cg T.ck T.ob) I.kIn J hk (fun z => nomatch z)
        fun tk => ⟨.bl b, H, I.kept (t' := tk) fun _ _ z => z, rfl, q⟩
/-- e.f -/
def tXget (K : PySem.W.Frag) (f : Str) (te : TE) : TE := fun σ H Q => te σ H fun x H1 => ∃ (a dx D : Addr) (fs : List (Str × V)) (v : V),
  x = .ref a ∧ H1 a = some (exo a D (some dx)) ∧ H1 dx = some (exd dx fs) ∧ Xask K D ∧ PySem.W.findIn K (.ref D) f = some none ∧ fs.lookup f = some v ∧ Q v H1
theorem pe_xget (he : PE X e te) (hb : attributeBase e f X.env (eval e X.env) = eval e X.env := by rfl) : PE X (.Attribute e f pos) (tXget X.K f te) := by
  refine ⟨fun pins s σ H Q I h => ?_⟩
  refine attr_of hb (thn (he.run pins s σ H _ I h) fun u s1 hh => ?_)
  obtain ⟨x, H1, I1, rx, a, dx, D, fs, v, ex, ea, ed, T, no, l, q⟩ := hh
  subst ex
  obtain rfl : u = Value.ref a := rx
  obtain ⟨t1, ho⟩ := exo_at I1.hok ea
  obtain ⟨mA, hns, hr⟩ := exd_at I1.hok ed
  obtain ⟨od, hod, hl⟩ := lookIn_ns hns
  obtain ⟨u, hu, ru⟩ := RelO.some_of (v := v) (o := mA f) (by rw [← l]; exact hr f)
  have J : PySem.W.InstAt s1.heap a { cls := .ref D, dict := some dx, data := .fields #[.ref t1, .none, .none, .none, .bool false, .none] } D (some od) :=
    ⟨ho, rfl, rfl, hod⟩
  exact HandSPX.exc_get I1.kIn J T.ga T.gg T.ex (PySem.W.findObj_own T.hd no rfl (by rw [hl, hu])) (handed_of ru) ⟨v, H1, I1.tok _, ru, q⟩
end
end L2.Vf
/-! Defs that are called where no repr is under way; repr of data. -/
namespace L2.Vf
open PySem PySem.Spec PyProof.Rows

/-- as FnOk, but only where nothing is guarded (no repr is under way) -/
structure FnG (P : Program) (w : World) (K : PySem.W.Frag) (mg : Str → Option Value) (base : Heap) (CX : CXT) (k : Nat) (f : Addr)
    (fd : FuncData) (ps : List Str) (sp : Sp) : Prop where
  len : ∀ vs H Q E, sp vs H Q E → vs.length = ps.length
  run : ∀ (A : Around) (outer : List Env) (s : Shared) (H : Hp) (args : Args) (us : List Value) (vs : List V) (Q : VK) (E : XK),
    A.guards = some [] → Room k A → Env0 P w K mg base A outer s H → BindsTo s fd args (ps.zip us) → Vals vs us → sp vs H Q E →
    codeAny (model P w) A (.call (.ref f) args) (CR CX outer P w H s Q E) s

section
variable {CX : CXT} {P : Program} {w : World} {K : PySem.W.Frag} {mg : Str → Option Value} {base : Heap} {k : Nat} {f : Addr}
theorem fn_ofG {name qual : Str} {params : Arguments} {body : List Stmt} {scope : Scope} {dV kV doc pm cdv ct oc : Value} {an od : Option Addr}
    {osl : Array (Option Value)} {N ps : List Str} {sp : Sp}
    (lk : K.lookup f = some ⟨oc, od, .func (PySem.W.fnOf name qual params body scope dV kV doc pm an cdv ct), osl⟩)
    (hcd : PySem.W.codeIn K cdv qual = true) (S : FnScope N ps scope) (len : ∀ vs H Q E, sp vs H Q E → vs.length = ps.length)
    (hbody : ∀ (A : Around) (outer : List Env) (s : Shared) (H : Hp) (vs : List V) (Q : VK) (E : XK), A.guards = some [] →
      Room k (A.deeper (envOfC qual scope s.heap.objs.size f cdv)) → sp vs H Q E →
      ∃ t, PSs (cxOf CX P w K mg base N qual scope f cdv A outer s H E) body t ∧ t { nx := fun _ H' => Q .non H', rt := Q } (start N vs) H) :
    FnG P w K mg base CX (k + 1) f (PySem.W.fnOf name qual params body scope dV kV doc pm an cdv ct) ps sp := by
  refine ⟨len, fun A outer s H args us vs Q E hgu hr e0 hb r hsp => ?_⟩
  have hl := len _ _ _ _ hsp
  have kIn : K.In s.heap := e0.mod.kin.keeps fun b o z => (e0.bs b o z).1
  have noLim : s.heap.NoLimit := e0.mod.nolimit.keeps fun b o z => (e0.bs b o z).1
  have kinds : ∀ y ∈ ps.zip us, scope.names.lookup y.1 = some .local ∨
      (scope.names.lookup y.1 = some .cell ∧ ((cellsFrom (s.heap.objs.size + 1) scope.names []).lookup y.1).isSome = true) := by
    rintro ⟨n, v⟩ hy
    rcases S.par n (List.of_mem_zip hy).1 with z | z
    · exact .inl z
    · exact .inr ⟨z, PySem.W.cellsFrom_some _ _ _ (.inl z)⟩
  refine codeAny_call_function hr.depth (kIn _ _ lk) rfl S.co S.gen rfl (PySem.W.codeRec_of kIn hcd) (hb _ _ _ _ ?_)
  refine wpAny_newFunctionEnv_cells S.kind kinds fun env he s1 x => ?_
  subst he
  refine ⟨noLim.keeps x.toInCall.keep, codeAny_func ?_⟩
  obtain ⟨t, ht, hq⟩ := hbody A outer s H vs Q E hgu (hr.deeper _) hsp
  have I : Inv (cxOf CX P w K mg base N qual scope f cdv A outer s H E) [] (start N vs) H s1 :=
    inv_start S hr.hd e0 hl r x
  refine wpAny_mono (ht.run [] s1 (start N vs) H _ I hq) (fun fl s' hs => ?_) fun e s' hs => hs
  cases fl with
  | ret u =>
    obtain ⟨v, σ', H', J, rv, z⟩ := hs
    exact ⟨v, H', J.os, J.bare, J.base, J.hok, rv, z⟩
  | next =>
    obtain ⟨σ', H', J, z⟩ := hs
    exact ⟨V.non, H', J.os, J.bare, J.base, J.hok, rfl, z⟩
  | brk =>
    obtain ⟨_, _, _, z⟩ := hs
    exact False.elim z
  | cont =>
    obtain ⟨_, _, _, z⟩ := hs
    exact False.elim z
theorem okG {x qual : Str} {st : Stmt} {fd : FuncData} {N ps : List Str} {sp : Sp} (F : Fun K x qual st f fd) (S : FnScope N ps (defScope st))
    (len : ∀ vs H Q E, sp vs H Q E → vs.length = ps.length)
    (hbody : ∀ (cdv : Value) (A : Around) (outer : List Env) (s : Shared) (H : Hp) (vs : List V) (Q : VK) (E : XK), A.guards = some [] →
      Room k (A.deeper (envOfC qual (defScope st) s.heap.objs.size f cdv)) → sp vs H Q E →
      ∃ t, PSs (cxOf CX0 P w K mg base N qual (defScope st) f cdv A outer s H E).nox (defBody st) t ∧
        t { nx := fun _ H' => Q .non H', rt := Q } (start N vs) H) : FnG P w K mg base CX0 (k + 1) f fd ps sp := by
  obtain ⟨oc, od, kV, doc, pm, an, cdv, ct, osl, rfl, lk, hcd⟩ := F.ex
  refine fn_ofG lk hcd S len fun A outer s H vs Q E hgu hr hsp => ?_
  obtain ⟨t, h, q⟩ := hbody cdv A outer s H vs Q E hgu hr hsp
  exact ⟨t, h.nox, q⟩
end
section
variable {X : Cx} {CX : CXT} {k : Nat} {f : Addr} {fd : FuncData} {ps : List Str} {sp : Sp} {E : XK} {x : Str} {p pos : Pos} {e : Expr} {es : List Expr} {t : TA}
theorem pe_callG (F : FnG X.prog X.w X.K X.mg X.base CX k f fd ps sp) (hgu : X.A.guards = some []) (hr : Room k X.A) (hg : Gl X x)
    (hm : X.mg x = some (.ref f)) (hk : PySem.W.keepIn X.K (.ref f) = true) (hb : Binds X.K fd ps []) (hx : Passes CX X E) (ha : PA X (e :: es) t)
    (hdb : (x == ("__debug__" : Str)) = false := by decide)
    (he : starEach (e :: es) X.env = (false, eval e X.env) :: starEach es X.env := by rfl)
    (hpl : (backTo pos (starEach es X.env)).any (·.1) = false := by rfl) :
    PE X (.Call (.Name x p) (e :: es) [] pos) (tCall sp [] E t) := by
  refine ⟨fun pins s σ H Q I h => ?_⟩
  refine wpAny_Call_Name_kw (ld_glob I hg hm ?_ hdb)
  refine PySem.W.callWith_K (h₀ := X.base) I.ok.mod.kin hk (thn (ha.run pos pins s σ H _ I h) fun us s1 hh => ?_) he hpl
  obtain ⟨vs, H1, I1, r, q⟩ := hh
  refine ⟨I1.kIn, ?_⟩
  have q' : sp vs H1 Q E := by
    have z : sp (vs ++ []) H1 Q E := q
    rw [List.append_nil] at z
    exact z
  have hl : us.length = ps.length := by
    rw [← r.length]
    exact F.len _ _ _ _ q'
  have b := hb s1 us I1.kIn (by rw [List.append_nil]; exact hl)
  rw [List.append_nil] at b
  show wpAny _ _ (call (.ref f) us) _ _ _
  refine wpAny_call (codeAny_mono (F.run X.A X.stack s1 H1 ⟨us, []⟩ us vs Q E hgu hr I1.env0 b r q') fun r s' hq => ?_)
  cases r with
  | error e => exact hx pins σ H1 s1 e s' I1 hq
  | ok fl =>
    cases fl with
    | ret u => exact I1.after hq
    | next => exact False.elim hq
    | brk => exact False.elim hq
    | cont => exact False.elim hq
end

/-- the law is called where nothing is guarded -/
theorem law_callG {P : Program} {w : World} {K : PySem.W.Frag} {mg mb : Str → Option Value} {k : Nat} {fa a : Addr} {fd : FuncData} {x : Str}
    {sp : Sp} {s₁ : Shared} {vs : List Value} {ns : List Int} (inK : K.In s₁.heap) (hns : s₁.heap.Ns mainGlobals mg)
    (hb : s₁.heap.Ns builtinsNs mb) (hbb : ∀ x : Str, x ≠ "__name__" → mb x = bootBuiltins x) (hlim : s₁.heap.NoLimit) (hg : s₁.gens = #[])
    (ha : s₁.heap.get? a = some { cls := .type "list", data := .seq vs.toArray }) (hi : IntsAre vs ns) (hl : ns.length ≤ sizeLine)
    (hr : Room k callerA)
    (F : ∀ base : Heap, K.In base → base.Ns mainGlobals mg → FnG P w K mg base CX0 k fa fd [x] sp)
    (hbind : ∀ (s : Shared) (u : Value), BindsTo s fd ⟨[u], []⟩ [(x, u)])
    (hsp : ∀ H : Hp, SqL K H a (ns.map V.int) → sp [.ref a] H (fun v _ => v = .bl true) fun _ _ _ => False) :
    codeAny (model P w) callerA (.call (.ref fa) ⟨[.ref a], []⟩)
      (fun r s' => r = .ok (.ret (.bool true)) ∧ OldK s₁.heap s'.heap ∧ s'.os = s₁.os ∧ AllBare s'.gens) s₁ := by
  have rv := vals_ints hi
  have lenV := hi.length
  have main : ∀ H : Hp, Only H → SqL K H a (ns.map V.int) → HOk P w H s₁.heap → (∀ b, H b ≠ none → b = a) →
      (H a ≠ none → K.lookup a = none) → codeAny (model P w) callerA (.call (.ref fa) ⟨[.ref a], []⟩)
      (fun r s' => r = .ok (.ret (.bool true)) ∧ OldK s₁.heap s'.heap ∧ s'.os = s₁.os ∧ AllBare s'.gens) s₁ := by
    intro H only seq ok onlyA notK
    have notDict : ∀ {b : Addr} {o : Obj} {es : Array DictEntry} {ep : Nat}, s₁.heap.get? b = some o → o.data = .dict es ep → H b = none := by
      intro b o es ep z d
      cases q : H b with
      | none => rfl
      | some u =>
        obtain rfl := onlyA b (by rw [q]; simp)
        rw [ha] at z
        cases z
        cases (show Data.seq vs.toArray _ = Data.dict es ep from d)
    have nsT : ∀ {b : Addr} {m : Str → Option Value}, s₁.heap.Ns b m → (hidT s₁.heap H).Ns b m := by
      rintro b m ⟨o, es, ep, z, d, r⟩
      exact ⟨o, es, ep, hidT_get z (notDict z d), d, r⟩
    have kT : K.In (hidT s₁.heap H) := fun b o z => hidT_get (inK b o z) (by
      cases q : H b with
      | none => rfl
      | some u =>
        obtain rfl := onlyA b (by rw [q]; simp)
        rw [notK (by rw [q]; simp)] at z
        cases z)
    have mod : Mod K mg (hidT s₁.heap H) := by
      obtain ⟨mc, h1, h2⟩ := hlim
      exact ⟨kT, nsT hns, ⟨mb, nsT hb, hbb⟩, ⟨mc, nsT h1, h2⟩⟩
    have env : Env0 P w K mg (hidT s₁.heap H) callerA [] s₁ H :=
      ⟨rfl, mod, fun b o z => of_hidT z, Nat.le_of_eq (hidT_size _ _), trivial, (fun b z => by cases z), ok, .of_eq hg⟩
    refine codeAny_mono ((F _ kT (nsT hns)).run callerA [] s₁ H ⟨[.ref a], []⟩ [.ref a] [.ref a] _ _ rfl hr env (hbind s₁ (.ref a))
      (.cons rfl .nil) (hsp H seq)) fun r s' h => ?_
    cases r with
    | error e => exact False.elim h
    | ok fl =>
      cases fl with
      | next => exact False.elim h
      | brk => exact False.elim h
      | cont => exact False.elim h
      | ret u =>
        obtain ⟨v, H', os, bare, un, ok', r', q⟩ := h
        obtain rfl : v = .bl true := q
        obtain rfl : u = Value.bool true := r'
        refine ⟨rfl, OldK.of_keep fun b o z => ?_, os, bare⟩
        cases q : H b with
        | none => exact un.keep b o z q (by intro y; cases y) (by simp)
        | some u =>
          rcases only b with y | ⟨ob, xs, y⟩
          · rw [q] at y
            cases y
          · obtain ⟨e1, _⟩ := ok b _ y
            obtain ⟨e2, _⟩ := ok' b _ (un.frzs b ob _ y)
            rw [z] at e1
            cases e1
            exact e2
  cases hk : K.lookup a with
  | some o =>
    have z := inK a o hk
    rw [ha] at z
    cases z
    refine main (fun _ => none) (fun _ => .inl rfl) (.inr ⟨_, vs.toArray, _, hk, rfl, rfl, rfl, ?_, ?_⟩) (fun b u y => ?_) (fun b y => absurd rfl y) fun y => absurd rfl y
    · rw [List.size_toArray, lenV]
      exact hl
    · simpa using rv
    · cases (show (none : Option HO) = some u from y)
  | none =>
    let T : Hp := fun b => if b = a then some (.frz { cls := .type "list", data := .seq vs.toArray } (.lst (ns.map V.int))) else none
    have at_ : T a = some (.frz { cls := .type "list", data := .seq vs.toArray } (.lst (ns.map V.int))) := if_pos rfl
    have off : ∀ {b : Addr}, b ≠ a → T b = none := fun z => if_neg z
    refine main T (fun b => ?_) (.inl (.inr ⟨_, at_⟩)) (fun b u z => ?_) (fun b z => ?_) fun _ => hk
    · by_cases h : b = a
      · rw [h]
        exact .inr ⟨_, _, at_⟩
      · exact .inl (off h)
    · by_cases h : b = a
      · subst h
        rw [at_] at z
        cases z
        exact ⟨ha, by rw [List.length_map]; exact hl, vs, _, rv, ha⟩
      · rw [off h] at z
        cases z
    · by_cases h : b = a
      · exact h
      · exact absurd (off h) z

/-- the law's end, by a promise that holds where nothing is guarded -/
theorem walk_ofG {l : PySem.W.OpenLaw} {n k : Nat} {q : Program} {loose : List Str} {XP : (Str → Option Value) → Heap → Prop}
    {YP : World → Heap → Prop} {d : DefRec} {K : Params → PySem.W.Frag} {sp : World → Sp} {x : Str}
    (hn : l.most = some n) (hn2 : n ≤ sizeLine) (hdf : d.params.defaults = []) (hr : Room k callerA)
    (hY : ∀ (w : World) (h : Heap), YP w h → (K w.params).In h)
    (F : ∀ (w : World) (mg : Str → Option Value) (fa : Addr) (h : Heap), (K w.params).In h → h.Ns mainGlobals mg → mg d.name = some (.ref fa) →
      ∃ fd : FuncData, (∀ (s : Shared) (u : Value), BindsTo s fd ⟨[u], []⟩ [(x, u)]) ∧
        ∀ base : Heap, (K w.params).In base → base.Ns mainGlobals mg → FnG l.prog w (K w.params) mg base CX0 k fa fd [x] (sp w))
    (hsp : ∀ (w : World) (H : Hp) (a : Addr) (ns : List Int), ns.length ≤ n → SqL (K w.params) H a (ns.map V.int) →
      sp w [.ref a] H (fun v _ => v = .bl true) fun _ _ _ => False) :
    PySem.W.WalkO q loose XP YP l.row.toRowW d [] (fun f vs => PySem.call f vs) := by
  refine Att.attach_call hn hdf fun w s₀ s₁ mg mb fa o pm cd doc a vs ns G Y ho hd hcd hmg hobj hints hlen hg => ?_
  have inK := hY w _ Y
  obtain ⟨fd, hb, hF⟩ := F w mg fa _ inK G.T.g hmg
  exact law_callG inK G.T.g G.T.b G.T.builtins G.T.nolimit hg hobj hints (Nat.le_trans hlen hn2) hr hF hb fun H hS => hsp w H a ns hlen hS
end L2.Vf
/-! What an expression gives, told by a property that stands while the heap only grows. -/
namespace L2.Vf
open PySem PySem.Spec PyProof.Rows
open Evl (Ex Ev EvL EvA)

/-- a property of a value that stands while the heap only grows -/
abbrev Pr := V → Hp → Prop
def Mono (P : Pr) : Prop := ∀ v H H', Ex H H' → P v H → P v H'
def EvP (te : TE) (σ : St) (H : Hp) (P : Pr) : Prop := ∀ H1, Ex H H1 → ∀ Q : VK, (∀ v H2, Ex H1 H2 → P v H2 → Q v H2) → te σ H1 Q
def AllP : List Pr → List V → Hp → Prop
  | [], [], _ => True
  | P :: Ps, v :: vs, H => P v H ∧ AllP Ps vs H
  | _, _, _ => False
theorem AllP.mono {H H' : Hp} (e : Ex H H') : ∀ {Ps : List Pr} {vs : List V}, (∀ P ∈ Ps, Mono P) → AllP Ps vs H → AllP Ps vs H'
  | [], [], _, _ => True.intro
  | P :: Ps, v :: vs, m, h => ⟨m P List.mem_cons_self v H H' e h.1, AllP.mono e (fun Q hQ => m Q (List.mem_cons_of_mem _ hQ)) h.2⟩
  | [], _ :: _, _, h => h.elim
  | _ :: _, [], _, h => h.elim
theorem AllP.len {H : Hp} : ∀ {Ps : List Pr} {vs : List V}, AllP Ps vs H → vs.length = Ps.length
  | [], [], _ => rfl
  | _ :: _, _ :: _, h => by
    rw [List.length_cons, List.length_cons, AllP.len h.2]
  | [], _ :: _, h => h.elim
  | _ :: _, [], h => h.elim
theorem AllP.app {H : Hp} : ∀ {Ps Qs : List Pr} {vs ws : List V}, AllP Ps vs H → AllP Qs ws H → AllP (Ps ++ Qs) (vs ++ ws) H
  | [], _, [], _, _, k => k
  | _ :: _, _, _ :: _, _, h, k => ⟨h.1, AllP.app h.2 k⟩
  | [], _, _ :: _, _, h, _ => h.elim
  | _ :: _, _, [], _, h, _ => h.elim
theorem AllP.get {H : Hp} : ∀ {Ps : List Pr} {vs : List V} {i : Nat} {P : Pr}, AllP Ps vs H → Ps[i]? = some P → ∃ v, vs[i]? = some v ∧ P v H
  | _ :: _, v :: _, 0, P, h, e => by
    obtain rfl := Option.some.inj e
    exact ⟨v, rfl, h.1⟩
  | _ :: _, _ :: _, i + 1, P, h, e => by
    obtain ⟨v, hv, hp⟩ := AllP.get (i := i) (P := P) h.2 (by simpa using e)
    exact ⟨v, by simpa using hv, hp⟩
  | [], _, _, _, _, e => by simp at e
  | _ :: _, [], _, _, h, _ => h.elim
def EvPs (ta : TA) (σ : St) (H : Hp) (Ps : List Pr) : Prop := ∀ H1, Ex H H1 → ∀ Q : List V → Hp → Prop, (∀ vs H2, Ex H1 H2 → AllP Ps vs H2 → Q vs H2) → ta σ H1 Q
/-- just this value -/
def is (x : V) : Pr := fun v _ => v = x
/-- a list of such, a tuple of such -/
def lstOf (Ps : List Pr) : Pr := fun v H => ∃ p vs, v = .ref p ∧ H p = some (.lst vs) ∧ AllP Ps vs H
def tupOf (Ps : List Pr) : Pr := fun v H => ∃ p vs, v = .ref p ∧ H p = some (.tup vs) ∧ AllP Ps vs H
theorem mono_is {x : V} : Mono (is x) := fun _ _ _ _ h => h
theorem mono_lstOf {Ps : List Pr} (m : ∀ P ∈ Ps, Mono P) : Mono (lstOf Ps) := by
  rintro v H H' e ⟨p, vs, rfl, h, k⟩
  exact ⟨p, vs, rfl, e _ _ h, k.mono e m⟩
theorem mono_tupOf {Ps : List Pr} (m : ∀ P ∈ Ps, Mono P) : Mono (tupOf Ps) := by
  rintro v H H' e ⟨p, vs, rfl, h, k⟩
  exact ⟨p, vs, rfl, e _ _ h, k.mono e m⟩
section
variable {K : PySem.W.Frag} {σ : St} {H H' : Hp} {ta : TA} {te tb tx : TE} {P R : Pr} {Ps : List Pr} {x : V}
theorem EvP.grow (e : Ex H H') (h : EvP te σ H P) : EvP te σ H' P := fun H1 a Q q => h H1 (e.trans a) Q q
theorem EvP.to (h : EvP te σ H P) (k : ∀ v H', Ex H H' → P v H' → R v H') : EvP te σ H R := fun H1 a Q q =>
  h H1 a Q fun v H2 b p => q v H2 b (k v H2 (a.trans b) p)
theorem evp_ev (h : Ev te σ H x) : EvP te σ H (is x) := fun H1 e Q q => h H1 e Q fun H2 e2 => q x H2 e2 rfl
theorem evp_var {i : Nat} (h : σ[i]? = some (some x)) : EvP (tVar i) σ H (is x) := evp_ev (Evl.ev_var h)
theorem evp_c : EvP (tC x) σ H (is x) := evp_ev Evl.ev_c
theorem evs_nil : EvPs tNil σ H [] := fun H1 _ Q q => q [] H1 (Ex.refl H1) True.intro
theorem evs_cons (h : EvP te σ H P) (m : Mono P) (hr : EvPs ta σ H Ps) : EvPs (tCons te ta) σ H (P :: Ps) := fun H1 e Q q =>
  h H1 e _ fun v H2 e2 p => hr H2 (e.trans e2) _ fun vs H3 e3 k => q (v :: vs) H3 (e2.trans e3) ⟨m v H2 H3 e3 p, k⟩
theorem evp_lst (h : EvPs ta σ H Ps) (m : ∀ P ∈ Ps, Mono P) (hl : Ps.length ≤ 1000) : EvP (tLst ta) σ H (lstOf Ps) := fun H1 e Q q =>
  h H1 e _ fun vs H2 e2 k => ⟨Nat.le_of_lt (small1000 (by rw [k.len]; exact hl)), fun p hp =>
    q (.ref p) _ (e2.trans (Ex.new hp)) ⟨p, vs, rfl, upd_same, k.mono (Ex.new hp) m⟩⟩
theorem evp_tup (h : EvPs ta σ H Ps) (m : ∀ P ∈ Ps, Mono P) (hl : Ps.length ≤ 1000) : EvP (tTup ta) σ H (tupOf Ps) := fun H1 e Q q =>
  h H1 e _ fun vs H2 e2 k => ⟨Nat.le_of_lt (small1000 (by rw [k.len]; exact hl)), fun p hp =>
    q (.ref p) _ (e2.trans (Ex.new hp)) ⟨p, vs, rfl, upd_same, k.mono (Ex.new hp) m⟩⟩
/-- xs + ys -/
theorem evp_cat {Qs : List Pr} (ha : EvP te σ H (lstOf Ps)) (hb : EvP tb σ H (lstOf Qs)) (m1 : ∀ P ∈ Ps, Mono P) (m2 : ∀ P ∈ Qs, Mono P)
    (hl : Ps.length + Qs.length ≤ 1000) : EvP (tOp rCat te tb) σ H (lstOf (Ps ++ Qs)) := fun H1 e Q q => by
  refine ha H1 e _ fun v H2 e2 hv => hb H2 (e.trans e2) _ fun w H3 e3 hw => ?_
  obtain ⟨p, vs, rfl, hp, kp⟩ := mono_lstOf m1 v H2 H3 e3 hv
  obtain ⟨r, ws, rfl, hr, kr⟩ := hw
  refine ⟨p, r, vs, ws, rfl, rfl, hp, hr, ?_, fun t ht => q _ _ ((e2.trans e3).trans (Ex.new ht)) ⟨t, vs ++ ws, rfl, upd_same, ?_⟩⟩
  · rw [kp.len, kr.len]
    exact Nat.le_of_lt (small1000 hl)
  · exact (kp.app kr).mono (Ex.new ht) fun P hP => by
      rcases List.mem_append.mp hP with z | z
      · exact m1 P z
      · exact m2 P z
end
section
variable {K : PySem.W.Frag} {σ : St} {H H' : Hp} {ta : TA} {te tb tx : TE} {P R : Pr} {Ps : List Pr} {x : V} {C : Addr} {f : Str}
theorem evp_held {i : Nat} (h : σ[i]? = some (some x)) (p : P x H) (m : Mono P) : EvP (tVar i) σ H P := fun H1 e Q q =>
  ⟨x, h, q x H1 (Ex.refl H1) (m x H H1 e p)⟩
theorem allP_is : ∀ {xs vs : List V} {H : Hp}, AllP (xs.map is) vs H → vs = xs
  | [], [], _, _ => rfl
  | x :: xs, v :: vs, _, h => by
    rw [allP_is h.2, show v = x from h.1]
  | [], _ :: _, _, h => h.elim
  | _ :: _, [], _, h => h.elim
/-! ### exceptions -/
def exOf0 (C : Addr) : Pr := fun v H => ∃ a, v = .ref a ∧ H a = some (exo a C none)
def exOf1 (C : Addr) (f : Str) (P : Pr) : Pr := fun v H => ∃ a dx y, v = .ref a ∧ H a = some (exo a C (some dx)) ∧ H dx = some (exd dx [(f, y)]) ∧ P y H
theorem mono_ex0 : Mono (exOf0 C) := by
  rintro v H H' e ⟨a, rfl, h⟩
  exact ⟨a, rfl, e _ _ h⟩
theorem mono_ex1 (m : Mono P) : Mono (exOf1 C f P) := by
  rintro v H H' e ⟨a, dx, y, rfl, h, k, p⟩
  exact ⟨a, dx, y, rfl, e _ _ h, e _ _ k, m _ _ _ e p⟩
theorem exOf0.at_ {v : V} (h : exOf0 C v H) : ∃ a, v = .ref a ∧ ExAt H a C [] := by
  obtain ⟨a, rfl, h⟩ := h
  exact ⟨a, rfl, .inl ⟨h, rfl⟩⟩
theorem exOf1.at_ {v : V} (h : exOf1 C f P v H) : ∃ a y, v = .ref a ∧ ExAt H a C [(f, y)] := by
  obtain ⟨a, dx, y, rfl, h, k, _⟩ := h
  exact ⟨a, y, rfl, .inr ⟨dx, h, k⟩⟩
theorem ExAt.mono {a D : Addr} {fs : List (Str × V)} (e : Ex H H') (h : ExAt H a D fs) : ExAt H' a D fs := by
  rcases h with ⟨h, rfl⟩ | ⟨dx, h, k⟩
  · exact .inl ⟨e _ _ h, rfl⟩
  · exact .inr ⟨dx, e _ _ h, e _ _ k⟩
theorem evp_ex0 : EvP (fun _ H Q => ∀ a, H a = none → Q (.ref a) (upd H a (exo a C none))) σ H (exOf0 C) := fun H1 _ Q q a n =>
  q _ _ (Ex.new n) ⟨a, rfl, upd_same⟩
theorem ev_isx {a D d : Addr} {fs : List (Str × V)} {b : Bool} (ha : Ev te σ H (.ref a)) (hx : ExAt H a D fs) (T : Xask K D)
    (hk : PySem.W.kitOne K (.ref D) (.ref d) = some b) : Ev (tCB (rIsX K) (tCons te (tCons (tC (.ref d)) tNil))) σ H (.bl b) := fun H1 e Q q =>
  ha H1 e _ fun H2 e2 => ⟨a, D, fs, .ref d, .ref d, b, rfl, hx.mono (e.trans e2), T, .own d, hk, q H2 e2⟩
theorem ev_isxT {a D : Addr} {n : String} {fs : List (Str × V)} {b : Bool} (ha : Ev te σ H (.ref a)) (hx : ExAt H a D fs) (T : Xask K D)
    (hk : PySem.W.kitOne K (.ref D) (.type n) = some b) : Ev (tCB (rIsX K) (tCons te (tCons (tC (.ty n)) tNil))) σ H (.bl b) := fun H1 e Q q =>
  ha H1 e _ fun H2 e2 => ⟨a, D, fs, .ty n, .type n, b, rfl, hx.mono (e.trans e2), T, .ty n, hk, q H2 e2⟩
end
/-- a while whose end is told once -/
theorem while_e {c : TT} {tb : TS} {D : Ends} {σ : St} {H : Hp} (Pv Pe : St → Hp → Prop) (μ : St → Hp → Nat) (h0 : Pv σ H)
    (hs : ∀ σ H, Pv σ H → c σ H fun b H1 => if b = true then tb { D with nx := fun σ' H' => Pv σ' H' ∧ μ σ' H' < μ σ H, ct := fun σ' H' => Pv σ' H' ∧ μ σ' H' < μ σ H, bk := D.nx } σ H1 else Pe σ H1)
    (he : ∀ σ H, Pe σ H → D.nx σ H) (mono : ∀ σ H Q Q', (∀ b H1, Q b H1 → Q' b H1) → c σ H Q → c σ H Q') : tWhile c tb D σ H := by
  refine while_by Pv μ h0 (fun σ1 H1 h => mono _ _ _ _ (fun b H2 z => ?_) (hs σ1 H1 h)) mono
  cases b with
  | true => exact z
  | false =>
    have z' : Pe σ1 H2 := by
      rw [if_neg Bool.false_ne_true] at z
      exact z
    exact iteF (he _ _ z')
end L2.Vf
/-! Data with dicts in it, and its repr. -/
namespace L2.Vf
open PySem PySem.Spec PyProof.Rows
open Evl (Ex Ev EvL EvA)

def kDat : Key → PyData
  | .inl i => .int i
  | .inr x => .str x
mutual
inductive Dq (K : PySem.W.Frag) (H : Hp) : V → PyData → Prop
  | non : Dq K H .non .none
  | bl (b : Bool) : Dq K H (.bl b) (.bool b)
  | int (i : Int) : Dq K H (.int i) (.int i)
  | str (x : Str) : Dq K H (.str x) (.str x)
  | lst {a : Addr} {xs : List V} {ds : List PyData} : a ≠ sysModules → SqL K H a xs → DqAll K H xs ds → Dq K H (.ref a) (.list ds)
  | tup {a : Addr} {xs : List V} {ds : List PyData} : SqT K H a xs → DqAll K H xs ds → Dq K H (.ref a) (.tuple ds)
  | dct {a : Addr} {kvs : List (Key × V)} {es : List (PyData × PyData)} : H a = some (.dK kvs) → DqKv K H kvs es → Dq K H (.ref a) (.dict es)
inductive DqAll (K : PySem.W.Frag) (H : Hp) : List V → List PyData → Prop
  | nil : DqAll K H [] []
  | cons {v : V} {vs : List V} {d : PyData} {ds : List PyData} : Dq K H v d → DqAll K H vs ds → DqAll K H (v :: vs) (d :: ds)
inductive DqKv (K : PySem.W.Frag) (H : Hp) : List (Key × V) → List (PyData × PyData) → Prop
  | nil : DqKv K H [] []
  | cons {k : Key} {v : V} {kvs : List (Key × V)} {d : PyData} {es : List (PyData × PyData)} : Dq K H v d → DqKv K H kvs es → DqKv K H ((k, v) :: kvs) ((kDat k, d) :: es)
end
mutual
theorem Dq.mono {K : PySem.W.Frag} {H H' : Hp} (e : Ex H H') : ∀ (d : PyData) (v : V), Dq K H v d → Dq K H' v d
  | .none, _, h => by cases h; exact .non
  | .bool b, _, h => by cases h; exact .bl b
  | .int i, _, h => by cases h; exact .int i
  | .str x, _, h => by cases h; exact .str x
  | .list ds, _, h => by
    cases h with
    | lst hn hs ha => exact .lst hn (Evl.ex_l e hs) (DqAll.mono e ds _ ha)
  | .tuple ds, _, h => by
    cases h with
    | tup hs ha => exact .tup (Evl.ex_t e hs) (DqAll.mono e ds _ ha)
  | .dict es, _, h => by
    cases h with
    | dct hs ha => exact .dct (e _ _ hs) (DqKv.mono e es _ ha)
theorem DqAll.mono {K : PySem.W.Frag} {H H' : Hp} (e : Ex H H') : ∀ (ds : List PyData) (vs : List V), DqAll K H vs ds → DqAll K H' vs ds
  | [], _, h => by cases h; exact .nil
  | d :: ds, _, h => by
    cases h with
    | cons h1 h2 => exact .cons (Dq.mono e d _ h1) (DqAll.mono e ds _ h2)
theorem DqKv.mono {K : PySem.W.Frag} {H H' : Hp} (e : Ex H H') : ∀ (es : List (PyData × PyData)) (kvs : List (Key × V)), DqKv K H kvs es → DqKv K H' kvs es
  | [], _, h => by cases h; exact .nil
  | (_, d) :: es, _, h => by
    cases h with
    | cons h1 h2 => exact .cons (Dq.mono e d _ h1) (DqKv.mono e es _ h2)
end
section
variable {X : Cx} {pins : List (Addr × Obj)} {σ : St} {H : Hp} {s : Shared}
theorem reads_kv {kvs : List (Key × V)} {vs : List (Key × Value)} {es : List DictEntry} (r : KV kvs vs) (p : Pairs (mixKind X.prog X.w) es vs) :
    ReadsAll s.heap (es.map (·.key)) (kvs.map fun q => kDat q.1) [] ∧ Vals (kvs.map (·.2)) (es.map (·.val)) := by
  induction p generalizing kvs with
  | nil =>
    cases r
    exact ⟨.nil, .nil⟩
  | @cons e kv es vs h1 h2 _ ih =>
    cases r with
    | @cons q _ qs _ hq hr =>
      obtain ⟨z1, z2⟩ := ih hr
      have hk : Reads s.heap e.key (kDat q.1) [] := by
        rw [hq.1]
        rcases keyIs_shape h1 with ⟨i, t, e1, e2⟩ | ⟨x, t, e1, e2⟩
        · rw [e1, e2]
          exact .int i t
        · rw [e1, e2]
          exact .str x t
      exact ⟨.cons hk z1, 
        .cons (by show RelV q.2 e.val; rw [h2]; exact hq.2) z2⟩
mutual
theorem Dq.reads (I : Inv X pins σ H s) : ∀ (d : PyData) (v : V) (u : Value), Dq X.K H v d → RelV v u → ∃ as, Reads s.heap u d as ∧ sysModules ∉ as
  | .none, _, _, h, r => by
    cases h
    cases r
    exact ⟨_, .none, by simp⟩
  | .bool b, _, _, h, r => by
    cases h
    cases r
    exact ⟨_, .bool b, by simp⟩
  | .int i, _, _, h, r => by
    cases h
    obtain ⟨t, rfl⟩ := r
    exact ⟨_, .int i t, by simp⟩
  | .str x, _, _, h, r => by
    cases h
    obtain ⟨t, rfl⟩ := r
    exact ⟨_, .str x t, by simp⟩
  | .list ds, _, _, h, r => by
    cases h with
    | lst na hq ha =>
      cases r
      obtain ⟨its, rv, ⟨o, n, ho, hc, _, hd⟩, _⟩ := I.list hq
      obtain ⟨as, hr, hn⟩ := DqAll.reads I ds _ its ha rv
      refine ⟨_, Reads.list ho hc hd hr, fun z => ?_⟩
      rcases List.mem_cons.mp z with z | z
      · exact na z.symm
      · exact hn z
  | .tuple ds, _, _, h, r => by
    cases h with
    | tup hq ha =>
      cases r
      obtain ⟨its, rv, ⟨o, ho, hc, n, hd⟩, _⟩ := I.tuple hq
      obtain ⟨as, hr, hn⟩ := DqAll.reads I ds _ its ha rv
      exact ⟨_, Reads.tuple ho hc hd hr, hn⟩
  | .dict es, _, _, h, r => by
    cases h with
    | dct hq ha =>
      cases r
      obtain ⟨_, hne, vs, rel, ⟨o, ds, ep, ho, hx, hd, _, hp, _⟩⟩ := dk_of I.hok hq
      obtain ⟨z1, z2⟩ := reads_kv rel hp
      obtain ⟨k1, as, k2, hn⟩ := DqKv.reads I es _ _ ha z2
      rw [k1] at z1
      refine ⟨_, Reads.dict ho hx.1 hd z1 k2, fun z => ?_⟩
      rcases List.mem_append.mp z with z | z
      · rcases List.mem_cons.mp z with z | z
        · rw [z] at hne
          exact absurd hne (by simp)
        · cases z
      · exact hn z
theorem DqAll.reads (I : Inv X pins σ H s) : ∀ (ds : List PyData) (vs : List V) (us : List Value), DqAll X.K H vs ds → Vals vs us →
    ∃ as, ReadsAll s.heap us ds as ∧ sysModules ∉ as
  | [], _, _, h, r => by
    cases h
    cases r
    exact ⟨_, .nil, by simp⟩
  | d :: ds, _, _, h, r => by
    cases h with
    | cons h1 h2 =>
      cases r with
      | cons r1 r2 =>
        obtain ⟨as, q1, n1⟩ := Dq.reads I d _ _ h1 r1
        obtain ⟨bs, q2, n2⟩ := DqAll.reads I ds _ _ h2 r2
        refine ⟨_, .cons q1 q2, fun z => ?_⟩
        rcases List.mem_append.mp z with z | z
        · exact n1 z
        · exact n2 z
theorem DqKv.reads (I : Inv X pins σ H s) : ∀ (es : List (PyData × PyData)) (kvs : List (Key × V)) (us : List Value), DqKv X.K H kvs es →
    Vals (kvs.map (·.2)) us → (kvs.map fun q => kDat q.1) = es.map (·.1) ∧ ∃ as, ReadsAll s.heap us (es.map (·.2)) as ∧ sysModules ∉ as
  | [], _, _, h, r => by
    cases h
    cases r
    exact ⟨rfl, _, .nil, by simp⟩
  | (k, d) :: es, _, _, h, r => by
    cases h with
    | cons h1 h2 =>
      cases r with
      | cons r1 r2 =>
        obtain ⟨as, q1, n1⟩ := Dq.reads I d _ _ h1 r1
        obtain ⟨e1, bs, q2, n2⟩ := DqKv.reads I es _ _ h2 r2
        refine ⟨by rw [List.map_cons, List.map_cons, e1], _, .cons q1 q2, fun z => ?_⟩
        rcases List.mem_append.mp z with z | z
        · exact n1 z
        · exact n2 z
end
/-- repr of a list, a tuple, a dict -/
def rRepr (K : PySem.W.Frag) : List V → Hp → VK → Prop := fun xs H Q => ∃ (a : Addr) (d : PyData), xs = [.ref a] ∧ Dq K H (.ref a) d ∧
  d.showable = true ∧ d.depth ≤ 50 ∧ d.shown.length ≤ sizeLine ∧ Q (.str d.shown) H
theorem call_repr (hg : X.A.guards = some []) (hu : X.A.units + 100 < cLine) : CallR X (.builtin "repr") (rRepr X.K) := by
  intro pins s σ H xs us Q I r h
  obtain ⟨a, d, rfl, hd, sh, dp, sz, q⟩ := h
  cases r with
  | cons rx rr =>
    cases rr
    obtain rfl := rx
    obtain ⟨as, hr, hn⟩ := Dq.reads I d _ _ hd rfl
    refine repr_of_reads' hr sh (fun _ => hn) hg (by omega) (fun _ _ z => z) (fun h' u tk hk => ?_) sz
    exact ⟨.str d.shown, H, I.kept (t' := tk) hk, ⟨u, rfl⟩, q⟩
/-! ### new lists, with the word that they are not the module table -/
def tLstN (t : TA) : TE := fun σ H Q => t σ H fun xs H1 => xs.length ≤ sizeLine ∧ ∀ p, H1 p = none → p ≠ sysModules → Q (.ref p) (upd H1 p (.lst xs))
theorem pe_lstN {es : List Expr} {t : TA} {pos : Pos} (h : PA X es t) : PE X (.List es pos) (tLstN t) := by
  refine ⟨fun pins s σ H Q I hq => ?_⟩
  refine wpAny_List_spliced (thn (h.run pos pins s σ H _ I hq) fun us s1 hh => ?_)
  obtain ⟨xs, H1, I1, r, z, q⟩ := hh
  refine ⟨by rw [← r.length]; exact z, .ref _, _, I1.lnew (t' := s1.toks) r z, rfl, q _ I1.fresh ?_⟩
  exact Nat.ne_of_gt I1.big
def rRepN : R2 := fun x y H Q => ∃ l k xs, x = .ref l ∧ y = .int k ∧ H l = some (.lst xs) ∧ -(2 ^ 63) ≤ k ∧ k < 2 ^ 63 ∧
  xs.length * k.toNat ≤ sizeLine ∧ ∀ p, H p = none → p ≠ sysModules → Q (.ref p) (upd H p (.lst (List.replicate k.toNat xs).flatten))
theorem op_repN : OpR X (binaryOp .Mult) rRepN := by
  intro pins s σ H x y v u Q I rx ry h
  obtain ⟨l, k, xs, rfl, rfl, hl0, lo, hi, hz, q⟩ := h
  obtain ⟨t, rfl⟩ := ry
  obtain rfl := rx
  obtain ⟨z, its, n, r, hl, e⟩ := I.lstM hl0
  have room : its.toArray.size * k.toNat ≤ sizeLine := by
    rw [List.size_toArray, ← hl]
    exact hz
  have cap : ¬ its.toArray.size * k.toNat > (2 ^ 63 - 1) / 8 := by
    have line : (sizeLine : Nat) ≤ (2 ^ 63 - 1) / 8 := by decide
    omega
  have fits : ¬ (!Builtin.List.listFitsIndex k) = true := by
    rw [fitsIndex_both lo hi]
    decide
  have long : ¬ Builtin.List.listTooLong (its.toArray.size * k.toNat) = true := by
    rw [notLongL room]
    decide
  have plain : ∀ m : Nat, List.foldl (fun x1 x2 => x1 ++ x2) #[] (List.replicate m its.toArray) = (List.replicate m its).flatten.toArray := by
    intro m
    have z := foldl_rep its m []
    rwa [List.nil_append] at z
  have made : List.foldl (fun x1 x2 => x1 ++ x2) #[] (List.replicate (if its.toArray.isEmpty = true then 0 else k.toNat) its.toArray) =
      (List.replicate k.toNat its).flatten.toArray := by
    rw [plain]
    cases its with
    | nil => simp
    | cons a r' => rw [if_neg (by simp)]
  refine wpAny_binaryOp_repeat_ref (T := "list") (U := "int") (by decide) ⟨_, e, rfl⟩ (fun s' => typeIs_int s' k t) noFill_list_mul
    F.fills_int_mul F.slot_int_rmul repeat_list F.slot_int_index.lookup ?_
  refine call_meets F.slot_int_rmul (typeIs_int s k t) F.entry_int_rmul (F.args_int_rmul_2 _ _)
    (int___rmul___int_list k t l its.toArray n) ⟨e, rfl, ⟨_, e, rfl⟩, ?_⟩
  refine call_meets F.slot_list_mul ⟨_, e, rfl⟩ F.entry_list_mul (F.args_list_mul_2 _ _)
    (AutoListH.list___mul___list_int_3 l its.toArray n k t fits cap long) ⟨e, ?_⟩
  rw [made]
  refine ⟨.ref _, _, I.lnew (t' := s.toks) (r.rep k.toNat) ?_, rfl, q _ I.fresh (Nat.ne_of_gt I.big)⟩
  rw [PyProof.Rows.lm_len_rep_flat, Nat.mul_comm]
  exact hz

/-! ### the written part by its name, for what stands within a comprehension -/
theorem call_lenK {K : PySem.W.Frag} (hK : X.K = K := by rfl) : CallR X (.builtin "len") (Evl.rLenS K) := by
  subst hK
  exact call_len_seq
theorem ix_listK {K : PySem.W.Frag} (hK : X.K = K := by rfl) : IxR X (rIxL K) := by
  subst hK
  exact ix_list
theorem ix_tupK {K : PySem.W.Frag} (hK : X.K = K := by rfl) : IxR X (rIxT K) := by
  subst hK
  exact ix_tup
theorem call_isXK {K : PySem.W.Frag} (hK : X.K = K := by rfl) : CallR X (.builtin "isinstance") (rIsX K) := by
  subst hK
  exact call_isX
/-- a text times an int -/
theorem op_mulS : OpR X (binaryOp .Mult) (fun x y H Q => ∃ (z : Str) (n : Int), x = .str z ∧ y = .int n ∧ MulOk z n ∧ Q (.str (Txt.mul z n)) H) := by
  intro pins s σ H x y v u Q I rx ry h
  obtain ⟨z, n, rfl, rfl, hz, q⟩ := h
  obtain ⟨t, rfl⟩ := rx
  obtain ⟨t', rfl⟩ := ry
  exact SB.mul hz fun t2 k => ⟨.str (Txt.mul z n), H, I.kept (t' := k) fun _ _ z => z, ⟨t2, rfl⟩, q⟩
end
end L2.Vf
/-! Fields, places, new lists that may be shown: what they give. -/
namespace L2.Vf
open PySem PySem.Spec PyProof.Rows
open Evl (Ex Ev EvT EvL EvA)
theorem units100 {k : Nat} {A : Around} (r : Room k A) : A.units + 100 < cLine := by have := r.un; omega
section
variable {K : PySem.W.Frag} {σ : St} {H H' : Hp} {ta : TA} {te tb tx : TE} {P R : Pr} {Ps : List Pr} {x : V} {C : Addr} {f : Str} {D : Ends} {i : Nat} {u : TS}
theorem set_go (h : EvP te σ H P) (k : ∀ v H2, Ex H H2 → P v H2 → u D (σ.set i (some v)) H2) : tSeq (tAsg te (gName i)) u D σ H := h H (Ex.refl H) _ k
theorem ret_go (h : EvP te σ H P) (k : ∀ v H2, Ex H H2 → P v H2 → D.rt v H2) : tRet te D σ H := h H (Ex.refl H) _ k
theorem if_go {tt : TT} {tu tv : TS} {b : Bool} (h : EvT tt σ H b) (k1 : ∀ H2, Ex H H2 → b = true → tu D σ H2) (k2 : ∀ H2, Ex H H2 → b = false → tv D σ H2) : tIfS tt tu tv D σ H :=
  h H (Ex.refl H) _ fun H2 e2 => by
    cases b with
    | true => exact k1 H2 e2 rfl
    | false => exact k2 H2 e2 rfl
theorem ev_of (h : EvP te σ H (is x)) : Ev te σ H x := fun H1 e Q q => h H1 e Q fun v H2 e2 hv => by
  obtain rfl : v = x := hv
  exact q H2 e2
/-- the i-th of a list -/
theorem evp_at {j : Nat} (h : EvP te σ H (lstOf Ps)) (e : Ps[j]? = some P) : EvP (tOp (rIxL K) te (tC (.int (j : Int)))) σ H P := fun H1 e1 Q q =>
  h H1 e1 _ fun v H2 e2 hv => by
    obtain ⟨p, vs, rfl, hp, hk⟩ := hv
    obtain ⟨y, hy, py⟩ := hk.get e
    exact ⟨p, vs, (j : Int), y, rfl, rfl, SqL.of hp, atI_nat hy, q y H2 e2 py⟩
/-- e.f, e a held exception -/
theorem evp_fld (h : EvP te σ H (exOf1 C f P)) (T : Xask K C) (no : PySem.W.findIn K (.ref C) f = some none) : EvP (tXget K f te) σ H P := fun H1 e1 Q q =>
  h H1 e1 _ fun v H2 e2 hv => by
    obtain ⟨a, dx, y, rfl, h1, h2, py⟩ := hv
    exact ⟨a, dx, C, [(f, y)], y, rfl, h1, h2, T, no, by simp [List.lookup], q y H2 e2 py⟩
/-- a new list that is not the module table -/
def lstN (Ps : List Pr) : Pr := fun v H => ∃ p vs, v = .ref p ∧ p ≠ sysModules ∧ H p = some (.lst vs) ∧ AllP Ps vs H
theorem mono_lstN (m : ∀ P ∈ Ps, Mono P) : Mono (lstN Ps) := by
  rintro v H H' e ⟨p, vs, rfl, n, h, k⟩
  exact ⟨p, vs, rfl, n, e _ _ h, k.mono e m⟩
theorem evp_lstN (h : EvPs ta σ H Ps) (m : ∀ P ∈ Ps, Mono P) (hl : Ps.length ≤ 1000) : EvP (tLstN ta) σ H (lstN Ps) := fun H1 e Q q =>
  h H1 e _ fun vs H2 e2 k => ⟨Nat.le_of_lt (small1000 (by rw [k.len]; exact hl)), fun p hp n =>
    q (.ref p) _ (e2.trans (Ex.new hp)) ⟨p, vs, rfl, n, upd_same, k.mono (Ex.new hp) m⟩⟩
theorem allP_rep {v : V} (h : P v H) : ∀ n, AllP (List.replicate n P) (List.replicate n [v]).flatten H
  | 0 => True.intro
  | n + 1 => ⟨h, allP_rep h n⟩
/-- [x] * n -/
theorem evp_repN {n : Nat} (h : EvP te σ H (lstN [P])) (m : Mono P) (hn : n ≤ 1000) : EvP (tOp rRepN te (tC (.int (n : Int)))) σ H (lstN (List.replicate n P)) := fun H1 e1 Q q =>
  h H1 e1 _ fun v H2 e2 hv => by
    obtain ⟨p, vs, rfl, np, hp, hk⟩ := hv
    obtain ⟨y, rfl, py⟩ : ∃ y, vs = [y] ∧ P y H2 := by
      cases vs with
      | nil => exact hk.elim
      | cons y r =>
        cases r with
        | nil => exact ⟨y, rfl, hk.1⟩
        | cons _ _ => exact hk.2.elim
    refine ⟨p, (n : Int), [y], rfl, rfl, hp, by omega, by omega, ?_, fun r hr nr => q (.ref r) _ (e2.trans (Ex.new hr)) ⟨r, _, rfl, nr, upd_same, ?_⟩⟩
    · show [y].length * (n : Int).toNat ≤ sizeLine
      have := small1000 hn
      simp
      omega
    · rw [Int.toNat_natCast]
      exact allP_rep (m y H2 _ (Ex.new hr) py) n
/-- tuple(l), l a list or a tuple -/
def rTupOf (K : PySem.W.Frag) : List V → Hp → VK → Prop := fun zs H Q => ∃ p ys, zs = [.ref p] ∧ ((SqL K H p ys ∧ ∀ l, H l = none → Q (.ref l) (upd H l (.tup ys))) ∨ (SqT K H p ys ∧ Q (.ref p) H))
theorem evp_tupOf {l : Addr} {xs : List V} (h : EvP te σ H (is (.ref l))) (hl : SqL K H l xs ∨ SqT K H l xs) :
    EvP (tCB (rTupOf K) (tCons te tNil)) σ H (fun v H => ∃ t, v = .ref t ∧ SqT K H t xs) := fun H1 e1 Q q => by
  exact h H1 e1 _ fun v H2 e2 hv => by
    obtain rfl : v = .ref l := hv
    refine ⟨l, xs, rfl, ?_⟩
    rcases hl with hl | hl
    · exact .inl ⟨Evl.ex_l (e1.trans e2) hl, fun t ht => q _ _ (e2.trans (Ex.new ht)) ⟨t, rfl, SqT.of upd_same⟩⟩
    · exact .inr ⟨Evl.ex_t (e1.trans e2) hl, q _ _ e2 ⟨l, rfl, Evl.ex_t (e1.trans e2) hl⟩⟩
/-- data that can be shown -/
def okB (d : PyData) : Bool := d.showable && decide (d.depth ≤ 50) && decide (d.shown.length ≤ 10000)
theorem evp_repr {d : PyData} (h : EvP te σ H (lstN Ps)) (hd : ∀ v H2, Ex H H2 → lstN Ps v H2 → Dq K H2 v d) (ok : okB d = true) : EvP (tCB (rRepr K) (tCons te tNil)) σ H (is (.str d.shown)) := fun H1 e1 Q q =>
  h H1 e1 _ fun v H2 e2 hv => by
    obtain ⟨p, vs, rfl, rest⟩ := hv
    unfold okB at ok
    simp only [Bool.and_eq_true, decide_eq_true_eq] at ok
    obtain ⟨⟨o1, o2⟩, o3⟩ := ok
    exact ⟨p, d, rfl, hd _ _ (e1.trans e2) ⟨p, vs, rfl, rest⟩, o1, o2, Nat.le_trans o3 (by decide), q _ H2 e2 rfl⟩
/-- all of them hold data -/
def DsOf (K : PySem.W.Frag) (H : Hp) : List Pr → List PyData → Prop
  | [], [] => True
  | P :: Ps, d :: ds => (∀ v, P v H → Dq K H v d) ∧ DsOf K H Ps ds
  | _, _ => False
theorem dqAll_of : ∀ {Ps : List Pr} {vs : List V} {ds : List PyData} {H : Hp}, AllP Ps vs H → DsOf K H Ps ds → DqAll K H vs ds
  | [], [], [], _, _, _ => .nil
  | _ :: _, _ :: _, _ :: _, _, h, g => .cons (g.1 _ h.1) (dqAll_of h.2 g.2)
  | [], _ :: _, _, _, h, _ => h.elim
  | _ :: _, [], _, _, h, _ => h.elim
  | [], [], _ :: _, _, _, g => g.elim
  | _ :: _, _ :: _, [], _, _, g => g.elim
theorem call_tuple_ofK {X : Cx} (hK : X.K = K := by rfl) : CallR X (.type "tuple") (rTupOf K) := by
  subst hK
  exact call_tuple_of
theorem op_neDK {X : Cx} (hu : X.A.units + 64 < cLine) (hK : X.K = K := by rfl) : OpR X (compareOp .NotEq) (rNeD K) := by
  subst hK
  exact op_neD hu
end
end L2.Vf
namespace L2.Vf.K00
open PySem PySem.Spec PyProof.Rows
open Evl (Ex Ev EvL EvA)

def top (i : Nat) : Stmt := PySem.Challenge.pw_movedactors_k00_errors.main.body.getD i (.Pass ⟨0, 0, 0, 0⟩)
abbrev sSource : Stmt := top 23
abbrev sPick : Stmt := top 24

theorem same_new {H : Hp} {p : Addr} {o : HO} (h : H p = none) : Ex H (upd H p o) := Ex.new h
/-- the source of draws at p, its cells at c -/
def Src (H : Hp) (p c : Addr) : Prop := ∃ (cells : List Int) (l m t : Int),
  H p = some (.dK [(.inr "cells", .ref c), (.inr "left", .int l), (.inr "mixed", .int m), (.inr "turn", .int t)]) ∧ H c = some (.lst (cells.map V.int))
/-- all but the source stays -/
def But (p c : Addr) (H H' : Hp) : Prop := ∀ b o, b ≠ p → b ≠ c → H b = some o → H' b = some o
theorem But.refl {p c : Addr} {H : Hp} : But p c H H := fun _ _ _ _ h => h
theorem But.trans {p c : Addr} {H H1 H2 : Hp} (a : But p c H H1) (b : But p c H1 H2) : But p c H H2 := fun x o h1 h2 h => b x o h1 h2 (a x o h1 h2 h)
theorem Ex.but {p c : Addr} {H H' : Hp} (e : Ex H H') : But p c H H' := fun b o _ _ h => e b o h

def spSource (K : PySem.W.Frag) : Sp := fun vs H Q _ => ∃ (a : Addr) (ns : List Int), vs = [.ref a] ∧ SqL K H a (ns.map V.int) ∧ ns.length ≤ 63 ∧
  ∀ p c H', H p = none → H c = none → Ex H H' → Src H' p c → Q (.ref p) H'
def spPick : Sp := fun vs H Q _ => ∃ (p c : Addr) (n : Int), vs = [.ref p, .int n] ∧ Src H p c ∧ 1 ≤ n ∧ n < 1000000 ∧
  ∀ r H', 0 ≤ r → r < n → Src H' p c → But p c H H' → Q (.int r) H'

section
variable {P : Program} {w : World} {K : PySem.W.Frag} {mg : Str → Option Value} {base : Heap} {f : Addr} {fd : FuncData}
abbrev nSource : List Str := ["_law_script", "_law_mixed", "_law_cell", "_law_cells", "_law_k"]
theorem scSource : FnScope nSource ["_law_script"] (defScope sSource) := ⟨rfl, rfl, rfl, by decide +kernel, rfl, by decide +kernel, by decide +kernel⟩
theorem ok_source (F : Fun K "_law_source" "_law_source" sSource f fd) (mi : mg "int" = none) (ma : mg "abs" = none) (mr : mg "range" = none) (ml : mg "len" = none) :
    FnOk P w K mg base CX0 1 f fd ["_law_script"] (spSource K) := by
  refine F.ok scSource (fun vs H Q E h => ?_) (fun cdv A outer s H vs Q E hr h => ?_)
  · obtain ⟨a, ns, rfl, _⟩ := h
    rfl
  obtain ⟨a, ns, rfl, hS, hl, q⟩ := h
  refine ⟨_, pss_cons (ps_set (i := 1) scSource.nd rfl (.inl rfl) pe_int)
    (pss_cons (ps_for PassesOwn.never rfl (pi_list (pv 0)) (pg_name (i := 2) scSource.nd rfl (.inl rfl))
      (pss_one (ps_set (i := 1) scSource.nd rfl (.inl rfl) (pe_op op_mod (pe_callTy call_int1 (by rfl) mi (by decide +kernel)
        (pa_cons (pe_op op_add (pe_op op_add (pe_op op_mul (pv 1) pe_int) (pe_op op_mul (pv 2) pe_int)) pe_int) pa_nil)) pe_int))))
    (pss_cons (ps_set (i := 3) scSource.nd rfl (.inr rfl) (pe_lc (own := [("_law_cell", 2)]) (g := gName 2) (tt := tYes) rfl scSource.nd (pi_list (pv 0))
      (blkOk_by (N := nSource) (sc := defScope sSource) (by decide +kernel)) (fun _ _ _ _ _ => pg_name (i := 2) scSource.nd rfl (.inl rfl)) (fun _ _ _ _ _ => pts_nil)
      (fun _ _ _ _ _ => pe_callB call_abs (by rfl) ma (by decide +kernel) (pa_cons (pv 2) pa_nil))))
    (pss_one (ps_ret (pe_disp (pps_cons pe_str (pe_lc (own := [("_law_k", 4)]) (g := gName 4) (tt := tYes) rfl scSource.nd
        (pi_range1 rfl mr (pa_cons (pe_callB (call_lenK (K := K)) (by rfl) ml PySem.boot_len (pa_cons (pv 3) pa_nil)) pa_nil))
        (blkOk_by (N := nSource) (sc := defScope sSource) (by decide +kernel)) (fun _ _ _ _ _ => pg_name (i := 4) scSource.nd rfl (.inl rfl)) (fun _ _ _ _ _ => pts_nil)
        (fun _ _ _ _ _ => pe_ix (ix_listK (K := K)) (pv 3) (pe_op op_sub (pe_op op_sub (pe_callB (call_lenK (K := K)) (by rfl) ml PySem.boot_len (pa_cons (pv 3) pa_nil)) pe_int) (pv 4)) (fun _ _ => rfl)))
      (pps_cons pe_str pe_int (pps_cons pe_str (pv 1) (pps_cons pe_str pe_int pps_nil)))) rfl rfl (fun z => by cases z) (by decide)))))), ?_⟩
  refine ⟨_, rfl, a, rfl, ⟨_, hS⟩, for_list (K := K) (a := a) (xs := ns.map V.int) (fun i σ H2 => ∃ (m : Int) (y2 : Option V),
    σ = [some (.ref a), some (.int m), y2, none, none] ∧ H2 = H) ⟨11, none, rfl, rfl⟩ (fun i σ H2 _ h => by obtain ⟨_, _, _, rfl⟩ := h; exact hS) ?_ ?_⟩
  · rintro i x σ H2 hi ⟨m, y2, rfl, rfl⟩
    obtain ⟨z, rfl⟩ : ∃ z, x = V.int z := by
      rw [List.getElem?_map] at hi
      cases e : ns[i]? with
      | none => rw [e] at hi; cases hi
      | some z => rw [e] at hi; exact ⟨z, (Option.some.inj hi).symm⟩
    refine ⟨_, rfl, _, _, rfl, rfl, .inr (by decide), _, rfl, _, _, rfl, rfl, .inr (by decide), ?_⟩
    exact ⟨_, _, rfl, rfl, _, _, rfl, rfl, .inl ⟨_, rfl, _, _, rfl, rfl, (by show (0 : Int) < 2147483629; decide), _, _, rfl, rfl⟩⟩
  · rintro σ H2 ⟨m, y2, rfl, rfl⟩
    refine ⟨_, rfl, a, rfl, ⟨_, hS⟩, fun D nD => ?_⟩
    refine lc_list (K := K) (a := a) (xs := ns.map V.int) (fun i H3 => ∃ xs : List Int, xs.length = i ∧ H3 D = some (.lst (xs.map V.int)) ∧ Ex H2 H3)
      ⟨[], rfl, upd_same, Ex.new nD⟩ (fun i H3 _ h => by obtain ⟨_, _, _, e⟩ := h; exact Evl.ex_l e hS) ?_ ?_
    · rintro i x H3 hi ⟨xs, rfl, hD, e⟩
      have hil := (List.getElem?_eq_some_iff.mp hi).1
      rw [List.length_map] at hil
      obtain ⟨z, rfl⟩ : ∃ z, x = V.int z := by
        rw [List.getElem?_map] at hi
        cases e : ns[xs.length]? with
        | none => rw [e] at hi; cases hi
        | some z => rw [e] at hi; exact ⟨z, (Option.some.inj hi).symm⟩
      refine ⟨rfl, ?_⟩
      refine ⟨_, rfl, _, rfl, xs.map V.int, hD, small1000 (by rw [List.length_map]; omega), xs ++ [if z < 0 then -z else z], by simp, ?_, e.mut nD⟩
      rw [upd_same, List.map_append]
      rfl
    · rintro H3 ⟨xs, hx, hD, e⟩
      rw [List.length_map] at hx
      have hlen : (((xs.map V.int).length : Nat) : Int) ≤ 63 := by
        rw [List.length_map]
        omega
      have hL : ∀ {H4 : Hp}, Ex H3 H4 → SqL K H4 D (xs.map V.int) := fun e4 => SqL.of (e4 _ _ hD)
      intro p np
      have e1 : Ex H3 (upd H3 p (.dK [])) := Ex.new np
      refine ⟨_, rfl, D, _, rfl, .inl (hL e1), _, rfl, (by omega), (by omega), fun c nc => ?_⟩
      have npc : p ≠ c := fun z => by
        rw [← z, upd_same] at nc
        cases nc
      have ncH : H3 c = none := by
        rw [upd_ne npc.symm] at nc
        exact nc
      have hn : (((xs.map V.int).length : Nat) : Int).toNat = xs.length := by
        rw [List.length_map]
        omega
      refine lc_range (lo := 0) (n := (((xs.map V.int).length : Nat) : Int).toNat) (fun i H4 => ∃ ys : List Int, ys.length = i ∧ H4 c = some (.lst (ys.map V.int)) ∧ H4 p = some (.dK []) ∧ Ex H3 H4)
        ⟨[], rfl, upd_same, ?_, e1.trans (Ex.new nc)⟩ ?_ ?_
      · rw [upd_ne npc, upd_same]
      · rintro i H4 hi ⟨ys, rfl, hc, hp, e4⟩
        rw [hn] at hi
        refine ⟨rfl, ?_⟩
        obtain ⟨z, hz⟩ : ∃ z, atI (xs.map V.int) ((xs.length : Int) - 1 - (0 + (ys.length : Int))) = some (.int z) := by
          have k : (xs.length : Int) - 1 - (0 + (ys.length : Int)) = ((xs.length - 1 - ys.length : Nat) : Int) := by omega
          rw [k]
          have lt : xs.length - 1 - ys.length < xs.length := by omega
          exact ⟨xs[xs.length - 1 - ys.length], atI_nat (by rw [List.getElem?_map, List.getElem?_eq_getElem lt]; rfl)⟩
        refine ⟨_, rfl, _, rfl, D, _, rfl, .inl (hL e4), _, _, rfl, rfl, _, rfl, _, _, rfl, rfl, D, _, _, .int z, rfl, rfl, hL e4, by rw [List.length_map]; exact hz, ys.map V.int, hc,
          small1000 (by rw [List.length_map]; omega), ys ++ [z], by simp, ?_, ?_, e4.mut ncH⟩
        · rw [upd_same, List.map_append]
          rfl
        · rw [upd_ne npc]
          exact hp
      · rintro H4 ⟨ys, hy, hc, hp, e4⟩
        refine ⟨_, rfl, hp, [(.inr "cells", .ref c), (.inr "left", .int 1), (.inr "mixed", .int m), (.inr "turn", .int 0)], rfl, (by show (4 : Nat) ≤ 15; decide), ?_⟩
        have np2 : H2 p = none := Evl.fresh_back e np
        refine q p c _ np2 (Evl.fresh_back e ncH) ((e.trans e4).mut np2) ⟨ys, 1, m, 0, ?_, ?_⟩
        · rw [upd_same]
          rfl
        · rw [upd_ne npc.symm]
          exact hc

/-- the source's entries -/
abbrev sKv (c : Addr) (l m t : Int) : List (Key × V) := [(.inr "cells", .ref c), (.inr "left", .int l), (.inr "mixed", .int m), (.inr "turn", .int t)]
section
variable {H : Hp} {p c : Addr} {l m t : Int}
theorem g_cells (h : H p = some (.dK (sKv c l m t))) : DGet H p (.str "cells") (some (.ref c)) := DGet.k (k := Sum.inr "cells") h
theorem g_left (h : H p = some (.dK (sKv c l m t))) : DGet H p (.str "left") (some (.int l)) := DGet.k (k := Sum.inr "left") h
theorem g_mixed (h : H p = some (.dK (sKv c l m t))) : DGet H p (.str "mixed") (some (.int m)) := DGet.k (k := Sum.inr "mixed") h
theorem g_turn (h : H p = some (.dK (sKv c l m t))) : DGet H p (.str "turn") (some (.int t)) := DGet.k (k := Sum.inr "turn") h
theorem p_left (h : H p = some (.dK (sKv c l m t))) (x : Int) : DPut H p (.str "left") (.int x) (upd H p (.dK (sKv c x m t))) :=
  DPut.k (k := Sum.inr "left") h (small1000 (by show (4 : Nat) ≤ 1000; decide))
theorem p_turn (h : H p = some (.dK (sKv c l m t))) (x : Int) : DPut H p (.str "turn") (.int x) (upd H p (.dK (sKv c l m x))) :=
  DPut.k (k := Sum.inr "turn") h (small1000 (by show (4 : Nat) ≤ 1000; decide))
end
/-- how many cells are left -/
def lenAt (c : Addr) (H : Hp) : Nat := match H c with
  | some (.lst xs) => xs.length
  | _ => 0
abbrev n__law_pick : List Str := ["_law_source_here", "_law_many", "_law_cells", "_law_left", "_law_turn", "_law_mixed"]
theorem sc__law_pick : FnScope n__law_pick ["_law_source_here", "_law_many"] (defScope sPick) := ⟨rfl, rfl, rfl, by decide +kernel, rfl, by decide +kernel, by decide +kernel⟩
theorem ok_pick (F : Fun K "_law_pick" "_law_pick" sPick f fd) (m_int : mg "int" = none) (m_len : mg "len" = none) :
    FnOk P w K mg base CX0 1 f fd ["_law_source_here", "_law_many"] spPick := by
  refine F.ok sc__law_pick (fun vs H Q E h => ?_) (fun cdv A outer s H vs Q E hr h => ?_)
  · obtain ⟨p, c, n, rfl, _⟩ := h
    rfl
  obtain ⟨p, c, n, rfl, hS, h1, h2, q⟩ := h
  have hu := hu_of hr
  refine ⟨_, (pss_cons (ps_if (pt_cmpR op_lt (pv 1) pe_int (nomark _))
  (pss_one (ps_ret pe_int))
  pss_nil)
  (pss_cons (ps_set (i := 2) sc__law_pick.nd rfl (.inl rfl) (pe_dget hu (pv 0) pe_str (fun _ _ => rfl)))
  (pss_cons (ps_while PassesOwn.never (PW.pt (pw_and (pt_cmpR op_lt (pe_dget hu (pv 0) pe_str (fun _ _ => rfl)) pe_int (nomark _)) (pw_and1 (pt_cmpR op_gt (pe_callB (call_lenK (K := K)) (by rfl) m_len PySem.boot_len (pa_cons (pv 2) pa_nil)) pe_int (nomark _)))))
  (pss_one (ps_dput hu (pv 0) pe_str (pe_bm0 PySem.F.plainAttrs_list PySem.F.slot_list_pop PySem.F.type_list_pop mt_pop (pv 2)) rfl)))
  (pss_cons (ps_set (i := 3) sc__law_pick.nd rfl (.inl rfl) (pe_dget hu (pv 0) pe_str (fun _ _ => rfl)))
  (pss_cons (ps_if (pt_cmpR op_gt (pv 3) pe_int (nomark _))
  (pss_cons (ps_dput hu (pv 0) pe_str (pe_op op_fdivN (pv 3) (pv 1)) rfl)
  (pss_one (ps_ret (pe_op op_mod (pe_callTy call_int1 (by rfl) m_int (by decide +kernel) (pa_cons (pv 3) pa_nil)) (pv 1)))))
  pss_nil)
  (pss_cons (ps_dput hu (pv 0) pe_str (pe_op op_add (pe_dget hu (pv 0) pe_str (fun _ _ => rfl)) pe_int) rfl)
  (pss_cons (ps_set (i := 4) sc__law_pick.nd rfl (.inl rfl) (pe_dget hu (pv 0) pe_str (fun _ _ => rfl)))
  (pss_cons (ps_set (i := 5) sc__law_pick.nd rfl (.inl rfl) (pe_op op_mod (pe_callTy call_int1 (by rfl) m_int (by decide +kernel) (pa_cons (pe_op op_add (pe_dget hu (pv 0) pe_str (fun _ _ => rfl)) (pe_op op_mul (pv 4) pe_int)) pa_nil)) pe_int))
  (pss_cons (ps_set (i := 5) sc__law_pick.nd rfl (.inl rfl) (pe_op op_mod (pe_callTy call_int1 (by rfl) m_int (by decide +kernel) (pa_cons (pe_op op_add (pe_op op_mul (pv 5) (pv 5)) (pe_op op_mul (pv 4) pe_int)) pa_nil)) pe_int))
  (pss_one (ps_ret (pe_op op_mod (pe_callTy call_int1 (by rfl) m_int (by decide +kernel) (pa_cons (pe_op op_fdivN (pv 5) pe_int) pa_nil)) (pv 1))))))))))))), ?_⟩
  obtain ⟨cells, l, m, t, hp, hc⟩ := hS
  have npc : p ≠ c := ne_of hp hc (by intro z; cases z)
  refine ⟨_, rfl, _, _, rfl, rfl, _, rfl, ite2 (fun z => ?_) (fun z => ?_)⟩
  · have z1 : n < 2 := of_decide_eq_true z
    exact q 0 H (Int.le_refl 0) (by omega) ⟨cells, l, m, t, hp, hc⟩ But.refl
  refine ⟨_, rfl, p, _, rfl, g_cells hp, ?_⟩
  refine while_e (fun σ H2 => σ = [some (.ref p), some (.int n), some (.ref c), none, none, none] ∧ But p c H H2 ∧
      ∃ (cells : List Int) (l : Int), H2 p = some (.dK (sKv c l m t)) ∧ H2 c = some (.lst (cells.map V.int)))
    (fun σ H2 => σ = [some (.ref p), some (.int n), some (.ref c), none, none, none] ∧ But p c H H2 ∧
      ∃ (cells : List Int) (l : Int), H2 p = some (.dK (sKv c l m t)) ∧ H2 c = some (.lst (cells.map V.int))) (fun _ H2 => lenAt c H2)
    ⟨rfl, But.refl, cells, l, hp, hc⟩ ?_ ?_ ?_
  · rintro σ H2 ⟨rfl, b, xs, y, hp2, hc2⟩
    refine ⟨_, rfl, p, _, rfl, g_left hp2, _, _, rfl, rfl, _, rfl, ite2 (fun _ => ?_) (fun _ => iteF ⟨rfl, b, xs, y, hp2, hc2⟩)⟩
    refine ⟨_, rfl, c, _, rfl, .inl (SqL.of hc2), _, _, rfl, rfl, _, rfl, ite2 (fun z => ?_) (fun z => ⟨rfl, b, xs, y, hp2, hc2⟩)⟩
    have hlen : 0 < xs.length := by
      have := of_decide_eq_true z
      rw [List.length_map] at this
      omega
    obtain ⟨v, hv⟩ : ∃ v, xs[xs.length - 1]? = some v := ⟨_, List.getElem?_eq_getElem (by omega)⟩
    refine ⟨_, rfl, .inl ⟨rfl, _, SqL.of hc2⟩, c, _, .int v, rfl, rfl, hc2, by rw [List.length_map, List.getElem?_map, hv]; rfl, ?_⟩
    have hp3 : (upd H2 c (.lst (xs.map V.int).dropLast)) p = some (.dK (sKv c y m t)) := by
      rw [upd_ne npc]
      exact hp2
    refine ⟨_, rfl, p, _, rfl, p_left hp3 v, ⟨rfl, fun x o x1 x2 hx => ?_, xs.dropLast, v, upd_same, ?_⟩, ?_⟩
    · rw [upd_ne x1, upd_ne x2]
      exact b x o x1 x2 hx
    · rw [upd_ne npc.symm, upd_same, List.map_dropLast]
    · unfold lenAt
      rw [upd_ne npc.symm, upd_same, hc2]
      show (xs.map V.int).dropLast.length < (xs.map V.int).length
      rw [List.length_dropLast, List.length_map]
      omega
  · rintro σ H2 ⟨rfl, b, xs, y, hp2, hc2⟩
    have n0 : n ≠ 0 := by omega
    have put : ∀ {y m2 t2 : Int} {o : HO}, o = .dK (sKv c y m2 t2) → Src (upd H2 p o) p c ∧ But p c H (upd H2 p o) := by
      rintro y m2 t2 o rfl
      refine ⟨⟨xs, y, m2, t2, upd_same, ?_⟩, fun x o x1 x2 hx => ?_⟩
      · rw [upd_ne npc.symm]
        exact hc2
      · rw [upd_ne x1]
        exact b x o x1 x2 hx
    refine ⟨_, rfl, p, _, rfl, g_left hp2, _, rfl, _, _, rfl, rfl, _, rfl, ite2 (fun _ => ?_) (fun _ => ?_)⟩
    · refine ⟨_, rfl, _, rfl, _, _, rfl, rfl, ⟨n0, by omega⟩, _, rfl, p, _, rfl, p_left hp2 _, ?_⟩
      refine ⟨_, rfl, .inl ⟨_, rfl, _, rfl, _, _, rfl, rfl, (by show 0 < n; omega), ?_⟩⟩
      obtain ⟨s1, s2⟩ := put (y := y.fdiv n) (m2 := m) (t2 := t) rfl
      exact q _ _ (Int.emod_nonneg _ n0) (Int.emod_lt_of_pos _ (by omega)) s1 s2
    · refine ⟨_, rfl, p, _, rfl, g_turn hp2, _, _, rfl, rfl, _, rfl, p, _, rfl, p_turn hp2 _, ?_⟩
      have hp3 : (upd H2 p (.dK (sKv c y m (t + 1)))) p = some (.dK (sKv c y m (t + 1))) := upd_same
      refine ⟨_, rfl, p, _, rfl, g_turn hp3, _, rfl, p, _, rfl, g_mixed hp3, _, rfl, _, _, rfl, rfl, .inr (by decide), _, _, rfl, rfl, .inl ⟨_, rfl, _, _, rfl, rfl, (by show (0 : Int) < 998244353; decide), ?_⟩⟩
      have m1 := Int.emod_nonneg (m + (t + 1) * 104729) (by decide : (998244353 : Int) ≠ 0)
      have m2 := Int.emod_lt_of_pos (m + (t + 1) * 104729) (by decide : (0 : Int) < 998244353)
      refine ⟨_, rfl, _, rfl, _, _, rfl, rfl, .inl ⟨by omega, by omega⟩, _, rfl, _, _, rfl, rfl, .inr (by decide), _, _, rfl, rfl, .inl ⟨_, rfl, _, _, rfl, rfl, (by show (0 : Int) < 2147483647; decide), ?_⟩⟩
      refine ⟨_, rfl, _, _, rfl, rfl, ⟨by decide, by decide⟩, .inl ⟨_, rfl, _, rfl, _, _, rfl, rfl, (by show 0 < n; omega), ?_⟩⟩
      obtain ⟨s1, s2⟩ := put (y := y) (m2 := m) (t2 := t + 1) rfl
      exact q _ _ (Int.emod_nonneg _ n0) (Int.emod_lt_of_pos _ (by omega)) s1 s2
  · rintro σ H2 Q1 Q2 mono ⟨v1, e1, a1, w1, e2, g1, i1, j1, e3, e4, k1, e5, z⟩
    refine ⟨v1, e1, a1, w1, e2, g1, i1, j1, e3, e4, k1, e5, ?_⟩
    cases k1 with
    | false => exact mono _ _ z
    | true =>
      obtain ⟨v2, e6, p2, ys, e7, g2, i2, j2, e8, e9, k2, e10, z⟩ := z
      exact ⟨v2, e6, p2, ys, e7, g2, i2, j2, e8, e9, k2, e10, mono _ _ z⟩
end
end L2.Vf.K00
namespace L2.Vf.K00
open PySem PySem.Spec PyProof.Rows
open Evl (Ex Ev EvL EvA)
abbrev veL : List Value := [.type "ValueError", .type "Exception", .type "BaseException", .type "object"]
abbrev leL : List Value := [.type "LookupError", .type "Exception", .type "BaseException", .type "object"]
/-- an __init__ that keeps its argument -/
def spA (C : Addr) (f : Str) : Sp := fun vs H Q _ => ∃ (a : Addr) (y : V), vs = [.ref a, y] ∧ H a = some (exo a C none) ∧
  ∀ dx, H dx = none → dx ≠ a → Q .non (upd (upd H dx (exd dx [(f, y)])) a (exo a C (some dx)))
/-- an __init__ that keeps its argument as a tuple -/
def spB (K : PySem.W.Frag) (C : Addr) : Sp := fun vs H Q _ => ∃ (a l : Addr) (xs : List V), vs = [.ref a, .ref l] ∧ H a = some (exo a C none) ∧
  (SqL K H l xs ∨ SqT K H l xs) ∧ ∀ t dx H1, Ex H H1 → SqT K H1 t xs → H1 dx = none → dx ≠ a →
    Q .non (upd (upd H1 dx (exd dx [("path", .ref t)])) a (exo a C (some dx)))
section
variable {P : Program} {w : World} {K : PySem.W.Frag} {mg : Str → Option Value} {base : Heap} {f C CA : Addr} {fd : FuncData}

abbrev si_NotClosable : Stmt := inClass (top 8) 0
theorem sc_NotClosable : FnScope ["self", "role"] ["self", "role"] (defScope si_NotClosable) := ⟨rfl, rfl, rfl, by decide +kernel, rfl, by decide +kernel, by decide +kernel⟩
theorem ok_NotClosable (F : Fun K "__init__" "NotClosable.__init__" si_NotClosable f fd) (M : BaseI K CA "ValueError.__init__") (mA : mg "ActorsError" = some (.ref CA)) (W : Xcl K C veL "ValueError.__new__")
    (no : PySem.W.findIn K (.ref C) "role" = some none) : FnOk P w K mg base CX0 1 f fd ["self", "role"] (spA C "role") := by
  refine F.ok sc_NotClosable (fun vs H Q E h => ?_) (fun cdv A outer s H vs Q E hr h => ?_)
  · obtain ⟨a, y, rfl, _⟩ := h
    rfl
  obtain ⟨a, y, rfl, ha, q⟩ := h
  refine ⟨_, pss_cons (ps_expr (pe_baseI PySem.F.excBase_ValueError M (by rfl) mA (pa_cons (pv 0) (pa_cons pe_str pa_nil))))
    (pss_one (ps_first (newId := "ValueError.__new__") VfX.tlVE (pv 0) (pv 1))), ?_⟩
  exact ⟨_, rfl, a, C, _, rfl, (by show 1 ≤ 1000; decide), W, ha, _, rfl, _, rfl, a, C, rfl, W, no, ha, q⟩

abbrev si_BadTerm : Stmt := inClass (top 9) 0
theorem sc_BadTerm : FnScope ["self", "path"] ["self", "path"] (defScope si_BadTerm) := ⟨rfl, rfl, rfl, by decide +kernel, rfl, by decide +kernel, by decide +kernel⟩
theorem ok_BadTerm (F : Fun K "__init__" "BadTerm.__init__" si_BadTerm f fd) (M : BaseI K CA "ValueError.__init__") (mA : mg "ActorsError" = some (.ref CA)) (W : Xcl K C veL "ValueError.__new__")
    (no : PySem.W.findIn K (.ref C) "path" = some none) : FnOk P w K mg base CX0 1 f fd ["self", "path"] (spA C "path") := by
  refine F.ok sc_BadTerm (fun vs H Q E h => ?_) (fun cdv A outer s H vs Q E hr h => ?_)
  · obtain ⟨a, y, rfl, _⟩ := h
    rfl
  obtain ⟨a, y, rfl, ha, q⟩ := h
  refine ⟨_, pss_cons (ps_expr (pe_baseI PySem.F.excBase_ValueError M (by rfl) mA (pa_cons (pv 0) (pa_cons pe_str pa_nil))))
    (pss_one (ps_first (newId := "ValueError.__new__") VfX.tlVE (pv 0) (pv 1))), ?_⟩
  exact ⟨_, rfl, a, C, _, rfl, (by show 1 ≤ 1000; decide), W, ha, _, rfl, _, rfl, a, C, rfl, W, no, ha, q⟩

abbrev si_BadText : Stmt := inClass (top 13) 0
theorem sc_BadText : FnScope ["self", "place"] ["self", "place"] (defScope si_BadText) := ⟨rfl, rfl, rfl, by decide +kernel, rfl, by decide +kernel, by decide +kernel⟩
theorem ok_BadText (F : Fun K "__init__" "BadText.__init__" si_BadText f fd) (M : BaseI K CA "ValueError.__init__") (mA : mg "ActorsError" = some (.ref CA)) (W : Xcl K C veL "ValueError.__new__")
    (no : PySem.W.findIn K (.ref C) "place" = some none) : FnOk P w K mg base CX0 1 f fd ["self", "place"] (spA C "place") := by
  refine F.ok sc_BadText (fun vs H Q E h => ?_) (fun cdv A outer s H vs Q E hr h => ?_)
  · obtain ⟨a, y, rfl, _⟩ := h
    rfl
  obtain ⟨a, y, rfl, ha, q⟩ := h
  refine ⟨_, pss_cons (ps_expr (pe_baseI PySem.F.excBase_ValueError M (by rfl) mA (pa_cons (pv 0) (pa_cons pe_str pa_nil))))
    (pss_one (ps_first (newId := "ValueError.__new__") VfX.tlVE (pv 0) (pv 1))), ?_⟩
  exact ⟨_, rfl, a, C, _, rfl, (by show 1 ≤ 1000; decide), W, ha, _, rfl, _, rfl, a, C, rfl, W, no, ha, q⟩

abbrev si_BadSystem : Stmt := inClass (top 14) 0
theorem sc_BadSystem : FnScope ["self", "word"] ["self", "word"] (defScope si_BadSystem) := ⟨rfl, rfl, rfl, by decide +kernel, rfl, by decide +kernel, by decide +kernel⟩
theorem ok_BadSystem (F : Fun K "__init__" "BadSystem.__init__" si_BadSystem f fd) (M : BaseI K CA "ValueError.__init__") (mA : mg "ActorsError" = some (.ref CA)) (W : Xcl K C veL "ValueError.__new__")
    (no : PySem.W.findIn K (.ref C) "word" = some none) : FnOk P w K mg base CX0 1 f fd ["self", "word"] (spA C "word") := by
  refine F.ok sc_BadSystem (fun vs H Q E h => ?_) (fun cdv A outer s H vs Q E hr h => ?_)
  · obtain ⟨a, y, rfl, _⟩ := h
    rfl
  obtain ⟨a, y, rfl, ha, q⟩ := h
  refine ⟨_, pss_cons (ps_expr (pe_baseI PySem.F.excBase_ValueError M (by rfl) mA (pa_cons (pv 0) (pa_cons pe_str pa_nil))))
    (pss_one (ps_first (newId := "ValueError.__new__") VfX.tlVE (pv 0) (pv 1))), ?_⟩
  exact ⟨_, rfl, a, C, _, rfl, (by show 1 ≤ 1000; decide), W, ha, _, rfl, _, rfl, a, C, rfl, W, no, ha, q⟩

abbrev si_NotTurned : Stmt := inClass (top 15) 0
theorem sc_NotTurned : FnScope ["self", "name"] ["self", "name"] (defScope si_NotTurned) := ⟨rfl, rfl, rfl, by decide +kernel, rfl, by decide +kernel, by decide +kernel⟩
theorem ok_NotTurned (F : Fun K "__init__" "NotTurned.__init__" si_NotTurned f fd) (M : BaseI K CA "ValueError.__init__") (mA : mg "ActorsError" = some (.ref CA)) (W : Xcl K C veL "ValueError.__new__")
    (no : PySem.W.findIn K (.ref C) "name" = some none) : FnOk P w K mg base CX0 1 f fd ["self", "name"] (spA C "name") := by
  refine F.ok sc_NotTurned (fun vs H Q E h => ?_) (fun cdv A outer s H vs Q E hr h => ?_)
  · obtain ⟨a, y, rfl, _⟩ := h
    rfl
  obtain ⟨a, y, rfl, ha, q⟩ := h
  refine ⟨_, pss_cons (ps_expr (pe_baseI PySem.F.excBase_ValueError M (by rfl) mA (pa_cons (pv 0) (pa_cons pe_str pa_nil))))
    (pss_one (ps_first (newId := "ValueError.__new__") VfX.tlVE (pv 0) (pv 1))), ?_⟩
  exact ⟨_, rfl, a, C, _, rfl, (by show 1 ≤ 1000; decide), W, ha, _, rfl, _, rfl, a, C, rfl, W, no, ha, q⟩

abbrev si_TooLong : Stmt := inClass (top 16) 0
theorem sc_TooLong : FnScope ["self", "limit"] ["self", "limit"] (defScope si_TooLong) := ⟨rfl, rfl, rfl, by decide +kernel, rfl, by decide +kernel, by decide +kernel⟩
theorem ok_TooLong (F : Fun K "__init__" "TooLong.__init__" si_TooLong f fd) (M : BaseI K CA "ValueError.__init__") (mA : mg "ActorsError" = some (.ref CA)) (W : Xcl K C veL "ValueError.__new__")
    (no : PySem.W.findIn K (.ref C) "limit" = some none) : FnOk P w K mg base CX0 1 f fd ["self", "limit"] (spA C "limit") := by
  refine F.ok sc_TooLong (fun vs H Q E h => ?_) (fun cdv A outer s H vs Q E hr h => ?_)
  · obtain ⟨a, y, rfl, _⟩ := h
    rfl
  obtain ⟨a, y, rfl, ha, q⟩ := h
  refine ⟨_, pss_cons (ps_expr (pe_baseI PySem.F.excBase_ValueError M (by rfl) mA (pa_cons (pv 0) (pa_cons pe_str pa_nil))))
    (pss_one (ps_first (newId := "ValueError.__new__") VfX.tlVE (pv 0) (pv 1))), ?_⟩
  exact ⟨_, rfl, a, C, _, rfl, (by show 1 ≤ 1000; decide), W, ha, _, rfl, _, rfl, a, C, rfl, W, no, ha, q⟩

abbrev si_UnknownName : Stmt := inClass (top 18) 0
theorem sc_UnknownName : FnScope ["self", "name"] ["self", "name"] (defScope si_UnknownName) := ⟨rfl, rfl, rfl, by decide +kernel, rfl, by decide +kernel, by decide +kernel⟩
theorem ok_UnknownName (F : Fun K "__init__" "UnknownName.__init__" si_UnknownName f fd) (M : BaseI K CA "LookupError.__init__") (mA : mg "NameMissing" = some (.ref CA)) (W : Xcl K C leL "LookupError.__new__")
    (no : PySem.W.findIn K (.ref C) "name" = some none) : FnOk P w K mg base CX0 1 f fd ["self", "name"] (spA C "name") := by
  refine F.ok sc_UnknownName (fun vs H Q E h => ?_) (fun cdv A outer s H vs Q E hr h => ?_)
  · obtain ⟨a, y, rfl, _⟩ := h
    rfl
  obtain ⟨a, y, rfl, ha, q⟩ := h
  refine ⟨_, pss_cons (ps_expr (pe_baseI PySem.F.excBase_LookupError M (by rfl) mA (pa_cons (pv 0) (pa_cons pe_str pa_nil))))
    (pss_one (ps_first (newId := "LookupError.__new__") VfX.tlLE (pv 0) (pv 1))), ?_⟩
  exact ⟨_, rfl, a, C, _, rfl, (by show 1 ≤ 1000; decide), W, ha, _, rfl, _, rfl, a, C, rfl, W, no, ha, q⟩

abbrev si_NotThere : Stmt := inClass (top 19) 0
theorem sc_NotThere : FnScope ["self", "pair"] ["self", "pair"] (defScope si_NotThere) := ⟨rfl, rfl, rfl, by decide +kernel, rfl, by decide +kernel, by decide +kernel⟩
theorem ok_NotThere (F : Fun K "__init__" "NotThere.__init__" si_NotThere f fd) (M : BaseI K CA "LookupError.__init__") (mA : mg "NameMissing" = some (.ref CA)) (W : Xcl K C leL "LookupError.__new__")
    (no : PySem.W.findIn K (.ref C) "pair" = some none) : FnOk P w K mg base CX0 1 f fd ["self", "pair"] (spA C "pair") := by
  refine F.ok sc_NotThere (fun vs H Q E h => ?_) (fun cdv A outer s H vs Q E hr h => ?_)
  · obtain ⟨a, y, rfl, _⟩ := h
    rfl
  obtain ⟨a, y, rfl, ha, q⟩ := h
  refine ⟨_, pss_cons (ps_expr (pe_baseI PySem.F.excBase_LookupError M (by rfl) mA (pa_cons (pv 0) (pa_cons pe_str pa_nil))))
    (pss_one (ps_first (newId := "LookupError.__new__") VfX.tlLE (pv 0) (pv 1))), ?_⟩
  exact ⟨_, rfl, a, C, _, rfl, (by show 1 ≤ 1000; decide), W, ha, _, rfl, _, rfl, a, C, rfl, W, no, ha, q⟩

abbrev si_NoControl : Stmt := inClass (top 20) 0
theorem sc_NoControl : FnScope ["self", "control"] ["self", "control"] (defScope si_NoControl) := ⟨rfl, rfl, rfl, by decide +kernel, rfl, by decide +kernel, by decide +kernel⟩
theorem ok_NoControl (F : Fun K "__init__" "NoControl.__init__" si_NoControl f fd) (M : BaseI K CA "LookupError.__init__") (mA : mg "NameMissing" = some (.ref CA)) (W : Xcl K C leL "LookupError.__new__")
    (no : PySem.W.findIn K (.ref C) "control" = some none) : FnOk P w K mg base CX0 1 f fd ["self", "control"] (spA C "control") := by
  refine F.ok sc_NoControl (fun vs H Q E h => ?_) (fun cdv A outer s H vs Q E hr h => ?_)
  · obtain ⟨a, y, rfl, _⟩ := h
    rfl
  obtain ⟨a, y, rfl, ha, q⟩ := h
  refine ⟨_, pss_cons (ps_expr (pe_baseI PySem.F.excBase_LookupError M (by rfl) mA (pa_cons (pv 0) (pa_cons pe_str pa_nil))))
    (pss_one (ps_first (newId := "LookupError.__new__") VfX.tlLE (pv 0) (pv 1))), ?_⟩
  exact ⟨_, rfl, a, C, _, rfl, (by show 1 ≤ 1000; decide), W, ha, _, rfl, _, rfl, a, C, rfl, W, no, ha, q⟩

abbrev si_NoActor : Stmt := inClass (top 21) 0
theorem sc_NoActor : FnScope ["self", "address"] ["self", "address"] (defScope si_NoActor) := ⟨rfl, rfl, rfl, by decide +kernel, rfl, by decide +kernel, by decide +kernel⟩
theorem ok_NoActor (F : Fun K "__init__" "NoActor.__init__" si_NoActor f fd) (M : BaseI K CA "LookupError.__init__") (mA : mg "NameMissing" = some (.ref CA)) (W : Xcl K C leL "LookupError.__new__")
    (no : PySem.W.findIn K (.ref C) "address" = some none) : FnOk P w K mg base CX0 1 f fd ["self", "address"] (spA C "address") := by
  refine F.ok sc_NoActor (fun vs H Q E h => ?_) (fun cdv A outer s H vs Q E hr h => ?_)
  · obtain ⟨a, y, rfl, _⟩ := h
    rfl
  obtain ⟨a, y, rfl, ha, q⟩ := h
  refine ⟨_, pss_cons (ps_expr (pe_baseI PySem.F.excBase_LookupError M (by rfl) mA (pa_cons (pv 0) (pa_cons pe_str pa_nil))))
    (pss_one (ps_first (newId := "LookupError.__new__") VfX.tlLE (pv 0) (pv 1))), ?_⟩
  exact ⟨_, rfl, a, C, _, rfl, (by show 1 ≤ 1000; decide), W, ha, _, rfl, _, rfl, a, C, rfl, W, no, ha, q⟩

abbrev si_BadBook : Stmt := inClass (top 10) 0
theorem sc_BadBook : FnScope ["self", "path"] ["self", "path"] (defScope si_BadBook) := ⟨rfl, rfl, rfl, by decide +kernel, rfl, by decide +kernel, by decide +kernel⟩
theorem ok_BadBook (F : Fun K "__init__" "BadBook.__init__" si_BadBook f fd) (M : BaseI K CA "ValueError.__init__") (mA : mg "ActorsError" = some (.ref CA)) (W : Xcl K C veL "ValueError.__new__")
    (no : PySem.W.findIn K (.ref C) "path" = some none) (mt : mg "tuple" = none) : FnOk P w K mg base CX0 1 f fd ["self", "path"] (spB K C) := by
  refine F.ok sc_BadBook (fun vs H Q E h => ?_) (fun cdv A outer s H vs Q E hr h => ?_)
  · obtain ⟨a, y, xs, rfl, _⟩ := h
    rfl
  obtain ⟨a, l, xs, rfl, ha, hl, q⟩ := h
  refine ⟨_, pss_cons (ps_expr (pe_baseI PySem.F.excBase_ValueError M (by rfl) mA (pa_cons (pv 0) (pa_cons pe_str pa_nil))))
    (pss_one (ps_first (newId := "ValueError.__new__") VfX.tlVE (pv 0) (pe_callTy call_tuple_of (by rfl) mt (by decide +kernel) (pa_cons (pv 1) pa_nil)))), ?_⟩
  refine ⟨_, rfl, a, C, _, rfl, (by show 1 ≤ 1000; decide), W, ha, _, rfl, l, xs, rfl, ?_⟩
  rcases hl with hl | hl
  · refine .inl ⟨hl, fun t nt => ⟨_, rfl, a, C, rfl, W, no, ?_, fun dx nd ne => q t dx _ (Ex.new nt) (SqT.of upd_same) nd ne⟩⟩
    rw [upd_ne (ne_of_none ha nt)]
    exact ha
  · exact .inr ⟨hl, _, rfl, a, C, rfl, W, no, ha, fun dx nd ne => q l dx H (Ex.refl H) hl nd ne⟩

abbrev si_BadEdition : Stmt := inClass (top 11) 0
theorem sc_BadEdition : FnScope ["self", "path"] ["self", "path"] (defScope si_BadEdition) := ⟨rfl, rfl, rfl, by decide +kernel, rfl, by decide +kernel, by decide +kernel⟩
theorem ok_BadEdition (F : Fun K "__init__" "BadEdition.__init__" si_BadEdition f fd) (M : BaseI K CA "ValueError.__init__") (mA : mg "ActorsError" = some (.ref CA)) (W : Xcl K C veL "ValueError.__new__")
    (no : PySem.W.findIn K (.ref C) "path" = some none) (mt : mg "tuple" = none) : FnOk P w K mg base CX0 1 f fd ["self", "path"] (spB K C) := by
  refine F.ok sc_BadEdition (fun vs H Q E h => ?_) (fun cdv A outer s H vs Q E hr h => ?_)
  · obtain ⟨a, y, xs, rfl, _⟩ := h
    rfl
  obtain ⟨a, l, xs, rfl, ha, hl, q⟩ := h
  refine ⟨_, pss_cons (ps_expr (pe_baseI PySem.F.excBase_ValueError M (by rfl) mA (pa_cons (pv 0) (pa_cons pe_str pa_nil))))
    (pss_one (ps_first (newId := "ValueError.__new__") VfX.tlVE (pv 0) (pe_callTy call_tuple_of (by rfl) mt (by decide +kernel) (pa_cons (pv 1) pa_nil)))), ?_⟩
  refine ⟨_, rfl, a, C, _, rfl, (by show 1 ≤ 1000; decide), W, ha, _, rfl, l, xs, rfl, ?_⟩
  rcases hl with hl | hl
  · refine .inl ⟨hl, fun t nt => ⟨_, rfl, a, C, rfl, W, no, ?_, fun dx nd ne => q t dx _ (Ex.new nt) (SqT.of upd_same) nd ne⟩⟩
    rw [upd_ne (ne_of_none ha nt)]
    exact ha
  · exact .inr ⟨hl, _, rfl, a, C, rfl, W, no, ha, fun dx nd ne => q l dx H (Ex.refl H) hl nd ne⟩

abbrev si_BadChange : Stmt := inClass (top 12) 0
theorem sc_BadChange : FnScope ["self", "path"] ["self", "path"] (defScope si_BadChange) := ⟨rfl, rfl, rfl, by decide +kernel, rfl, by decide +kernel, by decide +kernel⟩
theorem ok_BadChange (F : Fun K "__init__" "BadChange.__init__" si_BadChange f fd) (M : BaseI K CA "ValueError.__init__") (mA : mg "ActorsError" = some (.ref CA)) (W : Xcl K C veL "ValueError.__new__")
    (no : PySem.W.findIn K (.ref C) "path" = some none) (mt : mg "tuple" = none) : FnOk P w K mg base CX0 1 f fd ["self", "path"] (spB K C) := by
  refine F.ok sc_BadChange (fun vs H Q E h => ?_) (fun cdv A outer s H vs Q E hr h => ?_)
  · obtain ⟨a, y, xs, rfl, _⟩ := h
    rfl
  obtain ⟨a, l, xs, rfl, ha, hl, q⟩ := h
  refine ⟨_, pss_cons (ps_expr (pe_baseI PySem.F.excBase_ValueError M (by rfl) mA (pa_cons (pv 0) (pa_cons pe_str pa_nil))))
    (pss_one (ps_first (newId := "ValueError.__new__") VfX.tlVE (pv 0) (pe_callTy call_tuple_of (by rfl) mt (by decide +kernel) (pa_cons (pv 1) pa_nil)))), ?_⟩
  refine ⟨_, rfl, a, C, _, rfl, (by show 1 ≤ 1000; decide), W, ha, _, rfl, l, xs, rfl, ?_⟩
  rcases hl with hl | hl
  · refine .inl ⟨hl, fun t nt => ⟨_, rfl, a, C, rfl, W, no, ?_, fun dx nd ne => q t dx _ (Ex.new nt) (SqT.of upd_same) nd ne⟩⟩
    rw [upd_ne (ne_of_none ha nt)]
    exact ha
  · exact .inr ⟨hl, _, rfl, a, C, rfl, W, no, ha, fun dx nd ne => q l dx H (Ex.refl H) hl nd ne⟩

end
end L2.Vf.K00
namespace L2.Vf.K00
open PySem PySem.Spec PyProof.Rows
open Evl (Ex Ev EvL EvA)
abbrev s__law_kinds : Stmt := top 25
abbrev s__law_bases : Stmt := top 26

/-- the classes, by their number -/
structure Cls (K : PySem.W.Frag) (c : Nat → Addr) (ca cn : Addr) : Prop where
  ask : ∀ k, k < 19 → Xask K (c k)
  one : ∀ k j, k < 19 → j < 19 → PySem.W.kitOne K (.ref (c k)) (.ref (c j)) = some (decide (j = k))
  act : ∀ k, k < 19 → PySem.W.kitOne K (.ref (c k)) (.ref ca) = some (decide (k < 15))
  val : ∀ k, k < 19 → PySem.W.kitOne K (.ref (c k)) (.type "ValueError") = some (decide (k < 15))
  nam : ∀ k, k < 19 → PySem.W.kitOne K (.ref (c k)) (.ref cn) = some (decide (15 ≤ k))
  loo : ∀ k, k < 19 → PySem.W.kitOne K (.ref (c k)) (.type "LookupError") = some (decide (15 ≤ k))
structure Nms (mg : Str → Option Value) (c : Nat → Addr) (ca cn : Addr) : Prop where
  m_0 : mg "BadPaper" = some (.ref (c 0))
  m_1 : mg "BadMeaning" = some (.ref (c 1))
  m_2 : mg "BadControl" = some (.ref (c 2))
  m_3 : mg "BadWords" = some (.ref (c 3))
  m_4 : mg "NotNow" = some (.ref (c 4))
  m_5 : mg "MixedEditions" = some (.ref (c 5))
  m_6 : mg "NotClosable" = some (.ref (c 6))
  m_7 : mg "BadTerm" = some (.ref (c 7))
  m_8 : mg "BadBook" = some (.ref (c 8))
  m_9 : mg "BadEdition" = some (.ref (c 9))
  m_10 : mg "BadChange" = some (.ref (c 10))
  m_11 : mg "BadText" = some (.ref (c 11))
  m_12 : mg "BadSystem" = some (.ref (c 12))
  m_13 : mg "NotTurned" = some (.ref (c 13))
  m_14 : mg "TooLong" = some (.ref (c 14))
  m_15 : mg "UnknownName" = some (.ref (c 15))
  m_16 : mg "NotThere" = some (.ref (c 16))
  m_17 : mg "NoControl" = some (.ref (c 17))
  m_18 : mg "NoActor" = some (.ref (c 18))
  m_A : mg "ActorsError" = some (.ref ca)
  m_N : mg "NameMissing" = some (.ref cn)
/-- which kind it is -/
def rowK (k : Nat) : List V := [.bl (decide (0 = k)), .bl (decide (1 = k)), .bl (decide (2 = k)), .bl (decide (3 = k)), .bl (decide (4 = k)), .bl (decide (5 = k)),
  .bl (decide (6 = k)), .bl (decide (7 = k)), .bl (decide (8 = k)), .bl (decide (9 = k)), .bl (decide (10 = k)), .bl (decide (11 = k)), .bl (decide (12 = k)),
  .bl (decide (13 = k)), .bl (decide (14 = k)), .bl (decide (15 = k)), .bl (decide (16 = k)), .bl (decide (17 = k)), .bl (decide (18 = k))]
def rowB (k : Nat) : List V := [.bl (decide (k < 15)), .bl (decide (k < 15)), .bl (decide (15 ≤ k)), .bl (decide (15 ≤ k))]
def spRow (c : Nat → Addr) (row : Nat → List V) : Sp := fun vs H Q _ => ∃ (a : Addr) (k : Nat) (fs : List (Str × V)), vs = [.ref a] ∧ k < 19 ∧ ExAt H a (c k) fs ∧
  ∀ p H', Ex H H' → H' p = some (.lst (row k)) → Q (.ref p) H'

section
variable {P : Program} {w : World} {K : PySem.W.Frag} {mg : Str → Option Value} {base : Heap} {f ca cn : Addr} {c : Nat → Addr} {fd : FuncData}
theorem evp_k {σ : St} {H : Hp} {a : Addr} {fs : List (Str × V)} {k : Nat} (Z : Cls K c ca cn) (hs : σ[0]? = some (some (.ref a))) (lt : k < 19) (hx : ExAt H a (c k) fs)
    (j : Nat) (hj : j < 19) : EvP (tCB (rIsX K) (tCons (tVar 0) (tCons (tC (.ref (c j))) tNil))) σ H (is (.bl (decide (j = k)))) :=
  evp_ev (ev_isx (Evl.ev_var hs) hx (Z.ask k lt) (Z.one k j lt hj))
theorem evp_catI {te tb : TE} {σ : St} {H : Hp} {xs ys : List V} (ha : EvP te σ H (lstOf (xs.map is))) (hb : EvP tb σ H (lstOf (ys.map is))) (hl : xs.length + ys.length ≤ 1000) :
    EvP (tOp rCat te tb) σ H (lstOf ((xs ++ ys).map is)) := by
  rw [List.map_append]
  exact evp_cat ha hb (fun P hP => by obtain ⟨x, _, rfl⟩ := List.mem_map.mp hP; exact mono_is) (fun P hP => by obtain ⟨x, _, rfl⟩ := List.mem_map.mp hP; exact mono_is) (by rw [List.length_map, List.length_map]; exact hl)
theorem all_is {xs : List V} : ∀ P ∈ xs.map is, Mono P := by
  intro P hP
  obtain ⟨x, _, rfl⟩ := List.mem_map.mp hP
  exact mono_is
abbrev n__law_kinds : List Str := ["_law_e", "_law_found"]
theorem sc__law_kinds : FnScope n__law_kinds ["_law_e"] (defScope s__law_kinds) := ⟨rfl, rfl, rfl, by decide +kernel, rfl, by decide +kernel, by decide +kernel⟩
theorem ok_kinds (F : Fun K "_law_kinds" "_law_kinds" s__law_kinds f fd) (m_isinstance : mg "isinstance" = none) (N : Nms mg c ca cn) (Z : Cls K c ca cn) :
    FnOk P w K mg base CX0 1 f fd ["_law_e"] (spRow c rowK) := by
  obtain ⟨m_0, m_1, m_2, m_3, m_4, m_5, m_6, m_7, m_8, m_9, m_10, m_11, m_12, m_13, m_14, m_15, m_16, m_17, m_18, m_A, m_N⟩ := N
  refine F.ok sc__law_kinds (fun vs H Q E h => ?_) (fun cdv A outer s H vs Q E hr h => ?_)
  · obtain ⟨a, k, fs, rfl, _⟩ := h
    rfl
  obtain ⟨a, k, fs, rfl, lt, hx, q⟩ := h
  have hu := hu_of hr
  refine ⟨_, (pss_cons (ps_set (i := 1) sc__law_kinds.nd rfl (.inl rfl) (pe_lst (pa_cons (pe_callB (call_isXK (K := K)) (by rfl) m_isinstance (by decide +kernel) (pa_cons (pv 0) (pa_cons (pe_glob (v := .ref _) rfl m_0 rfl) pa_nil))) (pa_cons (pe_callB (call_isXK (K := K)) (by rfl) m_isinstance (by decide +kernel) (pa_cons (pv 0) (pa_cons (pe_glob (v := .ref _) rfl m_1 rfl) pa_nil))) (pa_cons (pe_callB (call_isXK (K := K)) (by rfl) m_isinstance (by decide +kernel) (pa_cons (pv 0) (pa_cons (pe_glob (v := .ref _) rfl m_2 rfl) pa_nil))) (pa_cons (pe_callB (call_isXK (K := K)) (by rfl) m_isinstance (by decide +kernel) (pa_cons (pv 0) (pa_cons (pe_glob (v := .ref _) rfl m_3 rfl) pa_nil))) pa_nil))))))
  (pss_cons (ps_set (i := 1) sc__law_kinds.nd rfl (.inl rfl) (pe_op op_cat (pv 1) (pe_lst (pa_cons (pe_callB (call_isXK (K := K)) (by rfl) m_isinstance (by decide +kernel) (pa_cons (pv 0) (pa_cons (pe_glob (v := .ref _) rfl m_4 rfl) pa_nil))) (pa_cons (pe_callB (call_isXK (K := K)) (by rfl) m_isinstance (by decide +kernel) (pa_cons (pv 0) (pa_cons (pe_glob (v := .ref _) rfl m_5 rfl) pa_nil))) (pa_cons (pe_callB (call_isXK (K := K)) (by rfl) m_isinstance (by decide +kernel) (pa_cons (pv 0) (pa_cons (pe_glob (v := .ref _) rfl m_6 rfl) pa_nil))) pa_nil))))))
  (pss_cons (ps_set (i := 1) sc__law_kinds.nd rfl (.inl rfl) (pe_op op_cat (pv 1) (pe_lst (pa_cons (pe_callB (call_isXK (K := K)) (by rfl) m_isinstance (by decide +kernel) (pa_cons (pv 0) (pa_cons (pe_glob (v := .ref _) rfl m_7 rfl) pa_nil))) (pa_cons (pe_callB (call_isXK (K := K)) (by rfl) m_isinstance (by decide +kernel) (pa_cons (pv 0) (pa_cons (pe_glob (v := .ref _) rfl m_8 rfl) pa_nil))) (pa_cons (pe_callB (call_isXK (K := K)) (by rfl) m_isinstance (by decide +kernel) (pa_cons (pv 0) (pa_cons (pe_glob (v := .ref _) rfl m_9 rfl) pa_nil))) pa_nil))))))
  (pss_cons (ps_set (i := 1) sc__law_kinds.nd rfl (.inl rfl) (pe_op op_cat (pv 1) (pe_lst (pa_cons (pe_callB (call_isXK (K := K)) (by rfl) m_isinstance (by decide +kernel) (pa_cons (pv 0) (pa_cons (pe_glob (v := .ref _) rfl m_10 rfl) pa_nil))) (pa_cons (pe_callB (call_isXK (K := K)) (by rfl) m_isinstance (by decide +kernel) (pa_cons (pv 0) (pa_cons (pe_glob (v := .ref _) rfl m_11 rfl) pa_nil))) (pa_cons (pe_callB (call_isXK (K := K)) (by rfl) m_isinstance (by decide +kernel) (pa_cons (pv 0) (pa_cons (pe_glob (v := .ref _) rfl m_12 rfl) pa_nil))) pa_nil))))))
  (pss_cons (ps_set (i := 1) sc__law_kinds.nd rfl (.inl rfl) (pe_op op_cat (pv 1) (pe_lst (pa_cons (pe_callB (call_isXK (K := K)) (by rfl) m_isinstance (by decide +kernel) (pa_cons (pv 0) (pa_cons (pe_glob (v := .ref _) rfl m_13 rfl) pa_nil))) (pa_cons (pe_callB (call_isXK (K := K)) (by rfl) m_isinstance (by decide +kernel) (pa_cons (pv 0) (pa_cons (pe_glob (v := .ref _) rfl m_14 rfl) pa_nil))) (pa_cons (pe_callB (call_isXK (K := K)) (by rfl) m_isinstance (by decide +kernel) (pa_cons (pv 0) (pa_cons (pe_glob (v := .ref _) rfl m_15 rfl) pa_nil))) pa_nil))))))
  (pss_one (ps_ret (pe_op op_cat (pv 1) (pe_lst (pa_cons (pe_callB (call_isXK (K := K)) (by rfl) m_isinstance (by decide +kernel) (pa_cons (pv 0) (pa_cons (pe_glob (v := .ref _) rfl m_16 rfl) pa_nil))) (pa_cons (pe_callB (call_isXK (K := K)) (by rfl) m_isinstance (by decide +kernel) (pa_cons (pv 0) (pa_cons (pe_glob (v := .ref _) rfl m_17 rfl) pa_nil))) (pa_cons (pe_callB (call_isXK (K := K)) (by rfl) m_isinstance (by decide +kernel) (pa_cons (pv 0) (pa_cons (pe_glob (v := .ref _) rfl m_18 rfl) pa_nil))) pa_nil)))))))))))), ?_⟩
  have L : ∀ (js : List Nat), (∀ j ∈ js, j < 19) → ∀ {σ : St} {H' : Hp}, σ[0]? = some (some (.ref a)) → Ex H H' →
      EvPs (js.foldr (fun j r => tCons (tCB (rIsX K) (tCons (tVar 0) (tCons (tC (.ref (c j))) tNil))) r) tNil) σ H' ((js.map fun j => V.bl (decide (j = k))).map is) := by
    intro js hjs σ H' hs e
    induction js with
    | nil => exact evs_nil
    | cons j js ih => exact evs_cons (evp_k Z hs lt (hx.mono e) j (hjs j List.mem_cons_self)) mono_is (ih fun j hj => hjs j (List.mem_cons_of_mem _ hj))
  refine set_go (evp_lst (L [0, 1, 2, 3] (by decide) rfl (Ex.refl H)) all_is (Nat.le_of_ble_eq_true rfl)) fun v1 H1 e1 h1 => ?_
  refine set_go (evp_catI (evp_held rfl h1 (mono_lstOf all_is)) (evp_lst (L [4, 5, 6] (by decide) rfl e1) all_is (Nat.le_of_ble_eq_true rfl)) (Nat.le_of_ble_eq_true rfl)) fun v2 H2 e2 h2 => ?_
  replace e2 := e1.trans e2
  refine set_go (evp_catI (evp_held rfl h2 (mono_lstOf all_is)) (evp_lst (L [7, 8, 9] (by decide) rfl e2) all_is (Nat.le_of_ble_eq_true rfl)) (Nat.le_of_ble_eq_true rfl)) fun v3 H3 e3 h3 => ?_
  replace e3 := e2.trans e3
  refine set_go (evp_catI (evp_held rfl h3 (mono_lstOf all_is)) (evp_lst (L [10, 11, 12] (by decide) rfl e3) all_is (Nat.le_of_ble_eq_true rfl)) (Nat.le_of_ble_eq_true rfl)) fun v4 H4 e4 h4 => ?_
  replace e4 := e3.trans e4
  refine set_go (evp_catI (evp_held rfl h4 (mono_lstOf all_is)) (evp_lst (L [13, 14, 15] (by decide) rfl e4) all_is (Nat.le_of_ble_eq_true rfl)) (Nat.le_of_ble_eq_true rfl)) fun v5 H5 e5 h5 => ?_
  replace e5 := e4.trans e5
  refine ret_go (evp_catI (evp_held rfl h5 (mono_lstOf all_is)) (evp_lst (L [16, 17, 18] (by decide) rfl e5) all_is (Nat.le_of_ble_eq_true rfl)) (Nat.le_of_ble_eq_true rfl)) fun v6 H6 e6 h6 => ?_
  obtain ⟨p, vs, rfl, hp, hk⟩ := h6
  refine q p H6 (e5.trans e6) ?_
  rw [hp, allP_is hk]
  rfl
abbrev n__law_bases : List Str := ["_law_e", "_law_found"]
theorem sc__law_bases : FnScope n__law_bases ["_law_e"] (defScope s__law_bases) := ⟨rfl, rfl, rfl, by decide +kernel, rfl, by decide +kernel, by decide +kernel⟩
theorem ok_bases (F : Fun K "_law_bases" "_law_bases" s__law_bases f fd) (m_isinstance : mg "isinstance" = none) (m_ValueError : mg "ValueError" = none) (m_LookupError : mg "LookupError" = none)
    (N : Nms mg c ca cn) (Z : Cls K c ca cn) : FnOk P w K mg base CX0 1 f fd ["_law_e"] (spRow c rowB) := by
  obtain ⟨m_0, m_1, m_2, m_3, m_4, m_5, m_6, m_7, m_8, m_9, m_10, m_11, m_12, m_13, m_14, m_15, m_16, m_17, m_18, m_A, m_N⟩ := N
  refine F.ok sc__law_bases (fun vs H Q E h => ?_) (fun cdv A outer s H vs Q E hr h => ?_)
  · obtain ⟨a, k, fs, rfl, _⟩ := h
    rfl
  obtain ⟨a, k, fs, rfl, lt, hx, q⟩ := h
  have hu := hu_of hr
  refine ⟨_, (pss_cons (ps_set (i := 1) sc__law_bases.nd rfl (.inl rfl) (pe_lst (pa_cons (pe_callB (call_isXK (K := K)) (by rfl) m_isinstance (by decide +kernel) (pa_cons (pv 0) (pa_cons (pe_glob (v := .ref _) rfl m_A rfl) pa_nil))) (pa_cons (pe_callB (call_isXK (K := K)) (by rfl) m_isinstance (by decide +kernel) (pa_cons (pv 0) (pa_cons (pe_bltn (v := .ty "ValueError") (by rfl) m_ValueError (by decide +kernel) rfl) pa_nil))) pa_nil))))
  (pss_one (ps_ret (pe_op op_cat (pv 1) (pe_lst (pa_cons (pe_callB (call_isXK (K := K)) (by rfl) m_isinstance (by decide +kernel) (pa_cons (pv 0) (pa_cons (pe_glob (v := .ref _) rfl m_N rfl) pa_nil))) (pa_cons (pe_callB (call_isXK (K := K)) (by rfl) m_isinstance (by decide +kernel) (pa_cons (pv 0) (pa_cons (pe_bltn (v := .ty "LookupError") (by rfl) m_LookupError (by decide +kernel) rfl) pa_nil))) pa_nil))))))), ?_⟩
  have one : ∀ {σ : St} {H' : Hp} {x : Addr} {b : Bool}, σ[0]? = some (some (.ref a)) → Ex H H' → PySem.W.kitOne K (.ref (c k)) (.ref x) = some b →
      EvP (tCB (rIsX K) (tCons (tVar 0) (tCons (tC (.ref x)) tNil))) σ H' (is (.bl b)) :=
    fun hs e hk => evp_ev (ev_isx (Evl.ev_var hs) (hx.mono e) (Z.ask k lt) hk)
  have ty : ∀ {σ : St} {H' : Hp} {x : String} {b : Bool}, σ[0]? = some (some (.ref a)) → Ex H H' → PySem.W.kitOne K (.ref (c k)) (.type x) = some b →
      EvP (tCB (rIsX K) (tCons (tVar 0) (tCons (tC (.ty x)) tNil))) σ H' (is (.bl b)) :=
    fun hs e hk => evp_ev (ev_isxT (Evl.ev_var hs) (hx.mono e) (Z.ask k lt) hk)
  have two : ∀ {ta tb : TE} {σ : St} {H' : Hp} {x y : V}, EvP ta σ H' (is x) → EvP tb σ H' (is y) → EvP (tLst (tCons ta (tCons tb tNil))) σ H' (lstOf ([x, y].map is)) :=
    fun h1 h2 => evp_lst (evs_cons h1 mono_is (evs_cons h2 mono_is evs_nil)) all_is (Nat.le_of_ble_eq_true rfl)
  refine set_go (two (one rfl (Ex.refl H) (Z.act k lt)) (ty rfl (Ex.refl H) (Z.val k lt))) fun v1 H1 e1 h1 => ?_
  refine ret_go (evp_catI (evp_held rfl h1 (mono_lstOf all_is)) (two (one rfl e1 (Z.nam k lt)) (ty rfl e1 (Z.loo k lt))) (Nat.le_of_ble_eq_true rfl)) fun v2 H2 e2 h2 => ?_
  obtain ⟨p, vs, rfl, hp, hk⟩ := h2
  refine q p H2 (e1.trans e2) ?_
  rw [hp, allP_is hk]
  rfl
end
end L2.Vf.K00
namespace L2.Vf.K00
open PySem PySem.Spec PyProof.Rows
open Evl (Ex Ev EvL EvA)
abbrev s__law_every : Stmt := top 27
/-- what stands where a class has an __init__ of its own -/
def Ini (P : Program) (w : World) (K : PySem.W.Frag) (mg : Str → Option Value) (base : Heap) (tl : List Value) (newId : String) (C : Addr) (sp : Sp) : Prop :=
  ∃ (fI : Addr) (fd : FuncData) (ps : List Str), Xcl K C tl newId ∧ PySem.W.findIn K (.ref C) "__init__" = some (some (.ref fI)) ∧
    PySem.W.typeIn K (.ref fI) = some (.type "function") ∧ FnOk P w K mg base CX0 1 fI fd ps sp ∧ Binds K fd ps []
theorem pe_ini {X : Cx} {B newId initId : String} {xn : Str} {tl : List Value} {C : Addr} {sp : Sp} {e : Expr} {es : List Expr} {ta : TA} {p pos : Pos}
    (F : ExcBaseFacts B newId initId tl) (I : Ini X.prog X.w X.K X.mg X.base tl newId C sp) (hr : Room 2 X.A)
    (hg : Gl X xn) (hm : X.mg xn = some (.ref C)) (ha : PA X (e :: es) ta) (hdb : (xn == ("__debug__" : Str)) = false := by decide)
    (he : starEach (e :: es) X.env = (false, eval e X.env) :: starEach es X.env := by rfl)
    (hpl : (backTo pos (starEach es X.env)).any (·.1) = false := by rfl) : PE X (.Call (.Name xn p) (e :: es) [] pos) (tExcV C sp ta) := by
  obtain ⟨fI, fd, ps, W, iC, tI, F1, hb⟩ := I
  exact pe_excV F W iC tI F1 hr hb pass0 hg hm ha hdb he hpl
section
variable {K : PySem.W.Frag} {σ : St} {H : Hp} {te : TE} {C : Addr} {f : Str} {y : V} {l : Addr} {xs : List V}
def tupV (K : PySem.W.Frag) (xs : List V) : Pr := fun v H => ∃ t, v = .ref t ∧ SqT K H t xs
theorem mono_tupV : Mono (tupV K xs) := by
  rintro v H H' e ⟨t, rfl, h⟩
  exact ⟨t, rfl, Evl.ex_t e h⟩
theorem ex_first {H : Hp} {a dx : Addr} {o1 o2 o3 : HO} (na : H a = none) (nd : H dx = none) : Ex H (upd (upd (upd H a o1) dx o2) a o3) := fun b o h => by
  rw [upd_ne (ne_of_none h na), upd_ne (ne_of_none h nd), upd_ne (ne_of_none h na)]
  exact h
theorem evp_excA (h : EvP te σ H (is y)) : EvP (tExcV C (spA C f) (tCons te tNil)) σ H (exOf1 C f (is y)) := fun H1 e Q q =>
  h H1 e _ fun v H2 e2 hv => ⟨Nat.le_of_ble_eq_true rfl, fun a na => ⟨a, v, rfl, upd_same, fun dx nd ne => ⟨rfl, by
    have nd2 : H2 dx = none := by rwa [upd_ne ne] at nd
    refine q _ _ (e2.trans (ex_first na nd2)) ⟨a, dx, v, rfl, upd_same, ?_, hv⟩
    rw [upd_ne ne, upd_same]⟩⟩⟩
theorem evp_excB (h : EvP te σ H (is (.ref l))) (hl : SqL K H l xs ∨ SqT K H l xs) : EvP (tExcV C (spB K C) (tCons te tNil)) σ H (exOf1 C "path" (tupV K xs)) := fun H1 e Q q =>
  h H1 e _ fun v H2 e2 hv => ⟨Nat.le_of_ble_eq_true rfl, fun a na => ⟨a, l, xs, by rw [show v = .ref l from hv], upd_same, by
    have e3 : Ex H (upd H2 a (exo a C none)) := (e.trans e2).trans (Ex.new na)
    rcases hl with hl | hl
    · exact .inl (Evl.ex_l e3 hl)
    · exact .inr (Evl.ex_t e3 hl), fun t dx H3 e3 ht nd ne => ⟨rfl, by
    have ha3 : H3 a = some (exo a C none) := e3 _ _ upd_same
    have e4 : Ex H2 (upd (upd H3 dx (exd dx [("path", .ref t)])) a (exo a C (some dx))) := fun b o hb => by
      have hb3 := e3 b o (Ex.new na b o hb)
      rw [upd_ne (ne_of_none hb na), upd_ne (ne_of_none hb3 nd)]
      exact hb3
    refine q _ _ (e2.trans e4) ⟨a, dx, .ref t, rfl, upd_same, ?_, t, rfl, ?_⟩
    · rw [upd_ne ne, upd_same]
    · rcases ht with (ht | ⟨ob, ht⟩) | ht
      · refine .inl (.inl ?_)
        rw [upd_ne (at_ne ha3 ht exo_tup), upd_ne (ne_of_none ht nd)]
        exact ht
      · refine .inl (.inr ⟨ob, ?_⟩)
        rw [upd_ne (at_ne ha3 ht exo_frz), upd_ne (ne_of_none ht nd)]
        exact ht
      · exact .inr ht⟩⟩⟩
theorem mono_nil : ∀ P ∈ ([] : List Pr), Mono P := fun P h => by cases h
theorem mono_cons {P : Pr} {Ps : List Pr} (m : Mono P) (h : ∀ Q ∈ Ps, Mono Q) : ∀ Q ∈ P :: Ps, Mono Q := fun Q hQ => by
  rcases List.mem_cons.mp hQ with rfl | z
  · exact m
  · exact h Q z
theorem mono_app {Ps Qs : List Pr} (h : ∀ Q ∈ Ps, Mono Q) (k : ∀ Q ∈ Qs, Mono Q) : ∀ Q ∈ Ps ++ Qs, Mono Q := fun Q hQ => by
  rcases List.mem_append.mp hQ with z | z
  · exact h Q z
  · exact k Q z
end

abbrev ev0 (K : PySem.W.Frag) (c : Nat → Addr) (w n o : V) (xs : List V) : List Pr := [exOf0 (c 0), exOf0 (c 1), exOf0 (c 2), exOf0 (c 3), exOf0 (c 4), exOf0 (c 5), exOf1 (c 6) "role" (is w)]
theorem mono_ev0 {K : PySem.W.Frag} {c : Nat → Addr} {w n o : V} {xs : List V} : ∀ Q ∈ ev0 K c w n o xs, Mono Q := mono_cons (mono_ex0) (mono_cons (mono_ex0) (mono_cons (mono_ex0) (mono_cons (mono_ex0) (mono_cons (mono_ex0) (mono_cons (mono_ex0) (mono_cons (mono_ex1 mono_is) (mono_nil)))))))
abbrev ev1 (K : PySem.W.Frag) (c : Nat → Addr) (w n o : V) (xs : List V) : List Pr := [exOf1 (c 7) "path" (is o), exOf1 (c 8) "path" (tupV K xs), exOf1 (c 9) "path" (tupV K xs), exOf1 (c 10) "path" (tupV K xs), exOf1 (c 11) "place" (is n)]
theorem mono_ev1 {K : PySem.W.Frag} {c : Nat → Addr} {w n o : V} {xs : List V} : ∀ Q ∈ ev1 K c w n o xs, Mono Q := mono_cons (mono_ex1 mono_is) (mono_cons (mono_ex1 mono_tupV) (mono_cons (mono_ex1 mono_tupV) (mono_cons (mono_ex1 mono_tupV) (mono_cons (mono_ex1 mono_is) (mono_nil)))))
abbrev ev2 (K : PySem.W.Frag) (c : Nat → Addr) (w n o : V) (xs : List V) : List Pr := [exOf1 (c 12) "word" (is w), exOf1 (c 13) "name" (is w), exOf1 (c 14) "limit" (is n), exOf1 (c 15) "name" (is w)]
theorem mono_ev2 {K : PySem.W.Frag} {c : Nat → Addr} {w n o : V} {xs : List V} : ∀ Q ∈ ev2 K c w n o xs, Mono Q := mono_cons (mono_ex1 mono_is) (mono_cons (mono_ex1 mono_is) (mono_cons (mono_ex1 mono_is) (mono_cons (mono_ex1 mono_is) (mono_nil))))
abbrev ev3 (K : PySem.W.Frag) (c : Nat → Addr) (w n o : V) (xs : List V) : List Pr := [exOf1 (c 16) "pair" (is o), exOf1 (c 17) "control" (is o), exOf1 (c 18) "address" (is n)]
theorem mono_ev3 {K : PySem.W.Frag} {c : Nat → Addr} {w n o : V} {xs : List V} : ∀ Q ∈ ev3 K c w n o xs, Mono Q := mono_cons (mono_ex1 mono_is) (mono_cons (mono_ex1 mono_is) (mono_cons (mono_ex1 mono_is) (mono_nil)))
abbrev evAll (K : PySem.W.Frag) (c : Nat → Addr) (w n o : V) (xs : List V) : List Pr := ev0 K c w n o xs ++ ev1 K c w n o xs ++ ev2 K c w n o xs ++ ev3 K c w n o xs
theorem mono_evAll {K : PySem.W.Frag} {c : Nat → Addr} {w n o : V} {xs : List V} : ∀ Q ∈ evAll K c w n o xs, Mono Q := mono_app (mono_app (mono_app mono_ev0 mono_ev1) mono_ev2) mono_ev3
/-- each of them is of its class -/
def AtC (c : Nat → Addr) : Nat → List Pr → Prop
  | _, [] => True
  | k, P :: Ps => (∀ v H, P v H → ∃ a fs, v = .ref a ∧ ExAt H a (c k) fs) ∧ AtC c (k + 1) Ps
theorem at0 {C : Addr} : ∀ v H, exOf0 C v H → ∃ a fs, v = .ref a ∧ ExAt H a C fs := fun v H h => by
  obtain ⟨a, e, z⟩ := exOf0.at_ h
  exact ⟨a, _, e, z⟩
theorem at1 {C : Addr} {f : Str} {P : Pr} : ∀ v H, exOf1 C f P v H → ∃ a fs, v = .ref a ∧ ExAt H a C fs := fun v H h => by
  obtain ⟨a, y, e, z⟩ := exOf1.at_ h
  exact ⟨a, _, e, z⟩
theorem atC_get {c : Nat → Addr} {H : Hp} : ∀ {Ps : List Pr} {vs : List V} {k i : Nat}, AtC c k Ps → AllP Ps vs H → i < Ps.length → ∃ a fs, vs[i]? = some (.ref a) ∧ ExAt H a (c (k + i)) fs
  | P :: Ps, v :: vs, k, 0, h, g, _ => by
    obtain ⟨a, fs, rfl, z⟩ := h.1 v H g.1
    exact ⟨a, fs, rfl, z⟩
  | P :: Ps, v :: vs, k, i + 1, h, g, l => by
    obtain ⟨a, fs, e, z⟩ := atC_get (i := i) h.2 g.2 (Nat.lt_of_succ_lt_succ l)
    refine ⟨a, fs, by simpa using e, ?_⟩
    rwa [show k + (i + 1) = k + 1 + i by omega]
  | [], _, _, _, _, _, l => absurd l (Nat.not_lt_zero _)
  | _ :: _, [], _, _, _, g, _ => g.elim
theorem atC_all {K : PySem.W.Frag} {c : Nat → Addr} {w n o : V} {xs : List V} : AtC c 0 (evAll K c w n o xs) := ⟨at0, at0, at0, at0, at0, at0, at1, at1, at1, at1, at1, at1, at1, at1, at1, at1, at1, at1, at1, True.intro⟩
def spEvery (K : PySem.W.Frag) (c : Nat → Addr) : Sp := fun vs H Q _ => ∃ (w n o : V) (l : Addr) (xs : List V), vs = [w, n, .ref l, o] ∧ (SqL K H l xs ∨ SqT K H l xs) ∧
  ∀ v H', Ex H H' → lstOf (evAll K c w n o xs) v H' → Q v H'
structure Inis (P : Program) (w : World) (K : PySem.W.Frag) (mg : Str → Option Value) (base : Heap) (c : Nat → Addr) : Prop where
  q_0 : PySem.W.excIn K (c 0) veL "ValueError.__new__" = true
  k_0 : PySem.W.keepIn K (.ref (c 0)) = true
  q_1 : PySem.W.excIn K (c 1) veL "ValueError.__new__" = true
  k_1 : PySem.W.keepIn K (.ref (c 1)) = true
  q_2 : PySem.W.excIn K (c 2) veL "ValueError.__new__" = true
  k_2 : PySem.W.keepIn K (.ref (c 2)) = true
  q_3 : PySem.W.excIn K (c 3) veL "ValueError.__new__" = true
  k_3 : PySem.W.keepIn K (.ref (c 3)) = true
  q_4 : PySem.W.excIn K (c 4) veL "ValueError.__new__" = true
  k_4 : PySem.W.keepIn K (.ref (c 4)) = true
  q_5 : PySem.W.excIn K (c 5) veL "ValueError.__new__" = true
  k_5 : PySem.W.keepIn K (.ref (c 5)) = true
  i_6 : Ini P w K mg base veL "ValueError.__new__" (c 6) (spA (c 6) "role")
  i_7 : Ini P w K mg base veL "ValueError.__new__" (c 7) (spA (c 7) "path")
  i_8 : Ini P w K mg base veL "ValueError.__new__" (c 8) (spB K (c 8))
  i_9 : Ini P w K mg base veL "ValueError.__new__" (c 9) (spB K (c 9))
  i_10 : Ini P w K mg base veL "ValueError.__new__" (c 10) (spB K (c 10))
  i_11 : Ini P w K mg base veL "ValueError.__new__" (c 11) (spA (c 11) "place")
  i_12 : Ini P w K mg base veL "ValueError.__new__" (c 12) (spA (c 12) "word")
  i_13 : Ini P w K mg base veL "ValueError.__new__" (c 13) (spA (c 13) "name")
  i_14 : Ini P w K mg base veL "ValueError.__new__" (c 14) (spA (c 14) "limit")
  i_15 : Ini P w K mg base leL "LookupError.__new__" (c 15) (spA (c 15) "name")
  i_16 : Ini P w K mg base leL "LookupError.__new__" (c 16) (spA (c 16) "pair")
  i_17 : Ini P w K mg base leL "LookupError.__new__" (c 17) (spA (c 17) "control")
  i_18 : Ini P w K mg base leL "LookupError.__new__" (c 18) (spA (c 18) "address")
section
variable {P : Program} {w : World} {K : PySem.W.Frag} {mg : Str → Option Value} {base : Heap} {f ca cn : Addr} {c : Nat → Addr} {fd : FuncData}
abbrev n__law_every : List Str := ["_law_word", "_law_number", "_law_some", "_law_other", "_law_found"]
theorem sc__law_every : FnScope n__law_every ["_law_word", "_law_number", "_law_some", "_law_other"] (defScope s__law_every) := ⟨rfl, rfl, rfl, by decide +kernel, rfl, by decide +kernel, by decide +kernel⟩
theorem ok_every (F : Fun K "_law_every" "_law_every" s__law_every f fd) (N : Nms mg c ca cn) (J : Inis P w K mg base c) :
    FnOk P w K mg base CX0 3 f fd ["_law_word", "_law_number", "_law_some", "_law_other"] (spEvery K c) := by
  obtain ⟨m_0, m_1, m_2, m_3, m_4, m_5, m_6, m_7, m_8, m_9, m_10, m_11, m_12, m_13, m_14, m_15, m_16, m_17, m_18, m_A, m_N⟩ := N
  obtain ⟨q_0, k_0, q_1, k_1, q_2, k_2, q_3, k_3, q_4, k_4, q_5, k_5, i_6, i_7, i_8, i_9, i_10, i_11, i_12, i_13, i_14, i_15, i_16, i_17, i_18⟩ := J
  refine F.ok sc__law_every (fun vs H Q E h => ?_) (fun cdv A outer s H vs Q E hr h => ?_)
  · obtain ⟨w, n, o, l, xs, rfl, _⟩ := h
    rfl
  obtain ⟨wv, n, o, l, xs, rfl, hl, q⟩ := h
  have hu := hu_of hr
  refine ⟨_, (pss_cons (ps_set (i := 4) sc__law_every.nd rfl (.inl rfl) (pe_lst (pa_cons (pe_excV0 PySem.F.excBase_ValueError q_0 m_0 k_0 (by rfl)) (pa_cons (pe_excV0 PySem.F.excBase_ValueError q_1 m_1 k_1 (by rfl)) (pa_cons (pe_excV0 PySem.F.excBase_ValueError q_2 m_2 k_2 (by rfl)) (pa_cons (pe_excV0 PySem.F.excBase_ValueError q_3 m_3 k_3 (by rfl)) (pa_cons (pe_excV0 PySem.F.excBase_ValueError q_4 m_4 k_4 (by rfl)) (pa_cons (pe_excV0 PySem.F.excBase_ValueError q_5 m_5 k_5 (by rfl)) (pa_cons (pe_ini PySem.F.excBase_ValueError i_6 hr (by rfl) m_6 (pa_cons (pv 0) pa_nil)) pa_nil)))))))))
  (pss_cons (ps_set (i := 4) sc__law_every.nd rfl (.inl rfl) (pe_op op_cat (pv 4) (pe_lst (pa_cons (pe_ini PySem.F.excBase_ValueError i_7 hr (by rfl) m_7 (pa_cons (pv 3) pa_nil)) (pa_cons (pe_ini PySem.F.excBase_ValueError i_8 hr (by rfl) m_8 (pa_cons (pv 2) pa_nil)) (pa_cons (pe_ini PySem.F.excBase_ValueError i_9 hr (by rfl) m_9 (pa_cons (pv 2) pa_nil)) (pa_cons (pe_ini PySem.F.excBase_ValueError i_10 hr (by rfl) m_10 (pa_cons (pv 2) pa_nil)) (pa_cons (pe_ini PySem.F.excBase_ValueError i_11 hr (by rfl) m_11 (pa_cons (pv 1) pa_nil)) pa_nil))))))))
  (pss_cons (ps_set (i := 4) sc__law_every.nd rfl (.inl rfl) (pe_op op_cat (pv 4) (pe_lst (pa_cons (pe_ini PySem.F.excBase_ValueError i_12 hr (by rfl) m_12 (pa_cons (pv 0) pa_nil)) (pa_cons (pe_ini PySem.F.excBase_ValueError i_13 hr (by rfl) m_13 (pa_cons (pv 0) pa_nil)) (pa_cons (pe_ini PySem.F.excBase_ValueError i_14 hr (by rfl) m_14 (pa_cons (pv 1) pa_nil)) (pa_cons (pe_ini PySem.F.excBase_LookupError i_15 hr (by rfl) m_15 (pa_cons (pv 0) pa_nil)) pa_nil)))))))
  (pss_one (ps_ret (pe_op op_cat (pv 4) (pe_lst (pa_cons (pe_ini PySem.F.excBase_LookupError i_16 hr (by rfl) m_16 (pa_cons (pv 3) pa_nil)) (pa_cons (pe_ini PySem.F.excBase_LookupError i_17 hr (by rfl) m_17 (pa_cons (pv 3) pa_nil)) (pa_cons (pe_ini PySem.F.excBase_LookupError i_18 hr (by rfl) m_18 (pa_cons (pv 1) pa_nil)) pa_nil)))))))))), ?_⟩
  have hl' : ∀ {H' : Hp}, Ex H H' → SqL K H' l xs ∨ SqT K H' l xs := fun e => by
    rcases hl with hl | hl
    · exact .inl (Evl.ex_l e hl)
    · exact .inr (Evl.ex_t e hl)
  refine set_go (P := lstOf (ev0 K c wv n o xs)) (evp_lst (evs_cons (evp_ex0) (mono_ex0) (evs_cons (evp_ex0) (mono_ex0) (evs_cons (evp_ex0) (mono_ex0) (evs_cons (evp_ex0) (mono_ex0) (evs_cons (evp_ex0) (mono_ex0) (evs_cons (evp_ex0) (mono_ex0) (evs_cons (evp_excA (evp_var (i := 0) rfl)) (mono_ex1 mono_is) (evs_nil)))))))) mono_ev0 (Nat.le_of_ble_eq_true rfl)) fun v1 H1 e1 h1 => ?_
  refine set_go (evp_cat (evp_held rfl h1 (mono_lstOf mono_ev0)) (evp_lst (Ps := ev1 K c wv n o xs) (evs_cons (evp_excA (evp_var (i := 3) rfl)) (mono_ex1 mono_is) (evs_cons (evp_excB (evp_var (i := 2) rfl) (hl' e1)) (mono_ex1 mono_tupV) (evs_cons (evp_excB (evp_var (i := 2) rfl) (hl' e1)) (mono_ex1 mono_tupV) (evs_cons (evp_excB (evp_var (i := 2) rfl) (hl' e1)) (mono_ex1 mono_tupV) (evs_cons (evp_excA (evp_var (i := 1) rfl)) (mono_ex1 mono_is) (evs_nil)))))) mono_ev1 (Nat.le_of_ble_eq_true rfl)) mono_ev0 mono_ev1 (Nat.le_of_ble_eq_true rfl)) fun v2 H2 e2 h2 => ?_
  replace e2 := e1.trans e2
  refine set_go (evp_cat (evp_held rfl h2 (mono_lstOf (mono_app mono_ev0 mono_ev1))) (evp_lst (Ps := ev2 K c wv n o xs) (evs_cons (evp_excA (evp_var (i := 0) rfl)) (mono_ex1 mono_is) (evs_cons (evp_excA (evp_var (i := 0) rfl)) (mono_ex1 mono_is) (evs_cons (evp_excA (evp_var (i := 1) rfl)) (mono_ex1 mono_is) (evs_cons (evp_excA (evp_var (i := 0) rfl)) (mono_ex1 mono_is) (evs_nil))))) mono_ev2 (Nat.le_of_ble_eq_true rfl)) (mono_app mono_ev0 mono_ev1) mono_ev2 (Nat.le_of_ble_eq_true rfl)) fun v3 H3 e3 h3 => ?_
  replace e3 := e2.trans e3
  refine ret_go (evp_cat (evp_held rfl h3 (mono_lstOf (mono_app (mono_app mono_ev0 mono_ev1) mono_ev2))) (evp_lst (Ps := ev3 K c wv n o xs) (evs_cons (evp_excA (evp_var (i := 3) rfl)) (mono_ex1 mono_is) (evs_cons (evp_excA (evp_var (i := 3) rfl)) (mono_ex1 mono_is) (evs_cons (evp_excA (evp_var (i := 1) rfl)) (mono_ex1 mono_is) (evs_nil)))) mono_ev3 (Nat.le_of_ble_eq_true rfl)) (mono_app (mono_app mono_ev0 mono_ev1) mono_ev2) mono_ev3 (Nat.le_of_ble_eq_true rfl)) fun v4 H4 e4 h4 => ?_
  exact q _ _ (e3.trans e4) h4
end
end L2.Vf.K00
namespace L2.Vf.K00
open PySem PySem.Spec PyProof.Rows
open Evl (Ex Ev EvT EvL EvA)
abbrev s__law_kept : Stmt := top 28
structure Flds (K : PySem.W.Frag) (c : Nat → Addr) : Prop where
  f_6 : PySem.W.findIn K (.ref (c 6)) "role" = some none
  f_7 : PySem.W.findIn K (.ref (c 7)) "path" = some none
  f_8 : PySem.W.findIn K (.ref (c 8)) "path" = some none
  f_9 : PySem.W.findIn K (.ref (c 9)) "path" = some none
  f_10 : PySem.W.findIn K (.ref (c 10)) "path" = some none
  f_11 : PySem.W.findIn K (.ref (c 11)) "place" = some none
  f_12 : PySem.W.findIn K (.ref (c 12)) "word" = some none
  f_13 : PySem.W.findIn K (.ref (c 13)) "name" = some none
  f_14 : PySem.W.findIn K (.ref (c 14)) "limit" = some none
  f_15 : PySem.W.findIn K (.ref (c 15)) "name" = some none
  f_16 : PySem.W.findIn K (.ref (c 16)) "pair" = some none
  f_17 : PySem.W.findIn K (.ref (c 17)) "control" = some none
  f_18 : PySem.W.findIn K (.ref (c 18)) "address" = some none
def spKept (K : PySem.W.Frag) (c : Nat → Addr) : Sp := fun vs H Q _ => ∃ (v w n o : V) (l : Addr) (xs : List V) (dw dn d : PyData) (ds : List PyData), vs = [v, w, n, .ref l, o] ∧
  lstOf (evAll K c w n o xs) v H ∧ (SqL K H l xs ∨ SqT K H l xs) ∧ Dq K H w dw ∧ Dq K H n dn ∧ Dq K H o d ∧ DqAll K H xs ds ∧
  okB (.list [dw, dw, dw, dw]) = true ∧ okB (.list [dn, dn, dn]) = true ∧ okB (.list [d, d, d]) = true ∧ okB (.list [.tuple ds, .tuple ds, .tuple ds]) = true ∧
  ∀ H', Ex H H' → Q (.bl true) H'
section
variable {P : Program} {w : World} {K : PySem.W.Frag} {mg : Str → Option Value} {base : Heap} {f ca cn : Addr} {c : Nat → Addr} {fd : FuncData}
abbrev n__law_kept : List Str := ["_law_every_here", "_law_word", "_law_number", "_law_some", "_law_other", "_law_words", "_law_paths", "_law_numbers", "_law_others"]
theorem sc__law_kept : FnScope n__law_kept ["_law_every_here", "_law_word", "_law_number", "_law_some", "_law_other"] (defScope s__law_kept) := ⟨rfl, rfl, rfl, by decide +kernel, rfl, by decide +kernel, by decide +kernel⟩
theorem ok_kept (F : Fun K "_law_kept" "_law_kept" s__law_kept f fd) (m_repr : mg "repr" = none) (m_tuple : mg "tuple" = none) (Z : Cls K c ca cn) (J : Flds K c) :
    FnG P w K mg base CX0 1 f fd ["_law_every_here", "_law_word", "_law_number", "_law_some", "_law_other"] (spKept K c) := by
  refine okG F sc__law_kept (fun vs H Q E h => ?_) (fun cdv A outer s H vs Q E hgu hr h => ?_)
  · obtain ⟨v, w, n, o, l, xs, dw, dn, d, ds, rfl, _⟩ := h
    rfl
  obtain ⟨v, wv, n, o, l, xs, dw, dn, d, ds, rfl, hv, hl, hw, hn, ho, hx, o1, o2, o3, o4, q⟩ := h
  have hu := hu_of hr
  refine ⟨_, (pss_cons (ps_set (i := 5) sc__law_kept.nd rfl (.inl rfl) (pe_lstN (pa_cons (pe_xget (pe_ix (ix_listK (K := K)) (pv 0) pe_int (fun _ _ => rfl))) (pa_cons (pe_xget (pe_ix (ix_listK (K := K)) (pv 0) pe_int (fun _ _ => rfl))) (pa_cons (pe_xget (pe_ix (ix_listK (K := K)) (pv 0) pe_int (fun _ _ => rfl))) (pa_cons (pe_xget (pe_ix (ix_listK (K := K)) (pv 0) pe_int (fun _ _ => rfl))) pa_nil))))))
  (pss_cons (ps_set (i := 6) sc__law_kept.nd rfl (.inl rfl) (pe_lstN (pa_cons (pe_xget (pe_ix (ix_listK (K := K)) (pv 0) pe_int (fun _ _ => rfl))) (pa_cons (pe_xget (pe_ix (ix_listK (K := K)) (pv 0) pe_int (fun _ _ => rfl))) (pa_cons (pe_xget (pe_ix (ix_listK (K := K)) (pv 0) pe_int (fun _ _ => rfl))) pa_nil)))))
  (pss_cons (ps_set (i := 7) sc__law_kept.nd rfl (.inl rfl) (pe_lstN (pa_cons (pe_xget (pe_ix (ix_listK (K := K)) (pv 0) pe_int (fun _ _ => rfl))) (pa_cons (pe_xget (pe_ix (ix_listK (K := K)) (pv 0) pe_int (fun _ _ => rfl))) (pa_cons (pe_xget (pe_ix (ix_listK (K := K)) (pv 0) pe_int (fun _ _ => rfl))) pa_nil)))))
  (pss_cons (ps_set (i := 8) sc__law_kept.nd rfl (.inl rfl) (pe_lstN (pa_cons (pe_xget (pe_ix (ix_listK (K := K)) (pv 0) pe_int (fun _ _ => rfl))) (pa_cons (pe_xget (pe_ix (ix_listK (K := K)) (pv 0) pe_int (fun _ _ => rfl))) (pa_cons (pe_xget (pe_ix (ix_listK (K := K)) (pv 0) pe_int (fun _ _ => rfl))) pa_nil)))))
  (pss_cons (ps_if (PW.pt (pw_or (pt_cmpR op_ne (pe_callB (call_repr hgu (units100 hr)) (by rfl) m_repr (by decide +kernel) (pa_cons (pv 5) pa_nil)) (pe_callB (call_repr hgu (units100 hr)) (by rfl) m_repr (by decide +kernel) (pa_cons (pe_op op_repN (pe_lstN (pa_cons (pv 1) pa_nil)) pe_int) pa_nil)) (nomark _)) (pw_or1 (pt_cmpR op_ne (pe_callB (call_repr hgu (units100 hr)) (by rfl) m_repr (by decide +kernel) (pa_cons (pv 6) pa_nil)) (pe_callB (call_repr hgu (units100 hr)) (by rfl) m_repr (by decide +kernel) (pa_cons (pe_op op_repN (pe_lstN (pa_cons (pe_callTy (call_tuple_ofK (K := K)) (by rfl) m_tuple (by decide +kernel) (pa_cons (pv 3) pa_nil)) pa_nil)) pe_int) pa_nil)) (nomark _)))))
  (pss_one (ps_ret pe_bl))
  pss_nil)
  (pss_one (ps_ret (pe_and (pe_cmpR op_eq (pe_callB (call_repr hgu (units100 hr)) (by rfl) m_repr (by decide +kernel) (pa_cons (pv 7) pa_nil)) (pe_callB (call_repr hgu (units100 hr)) (by rfl) m_repr (by decide +kernel) (pa_cons (pe_op op_repN (pe_lstN (pa_cons (pv 2) pa_nil)) pe_int) pa_nil)) (nomark _)) (pe_one (pe_cmpR op_eq (pe_callB (call_repr hgu (units100 hr)) (by rfl) m_repr (by decide +kernel) (pa_cons (pv 8) pa_nil)) (pe_callB (call_repr hgu (units100 hr)) (by rfl) m_repr (by decide +kernel) (pa_cons (pe_op op_repN (pe_lstN (pa_cons (pv 4) pa_nil)) pe_int) pa_nil)) (nomark _))))))))))), ?_⟩
  have fl : ∀ {σ : St} {H' : Hp} (j : Nat) {C : Addr} {g : Str} {R : Pr}, σ[0]? = some (some v) → Ex H H' → (evAll K c wv n o xs)[j]? = some (exOf1 C g R) → Xask K C →
      PySem.W.findIn K (.ref C) g = some none → EvP (tXget K g (tOp (rIxL K) (tVar 0) (tC (.int (j : Int))))) σ H' R :=
    fun j _ _ _ hs e he T no => evp_fld (evp_at (evp_held hs (mono_lstOf mono_evAll v _ _ e hv) (mono_lstOf mono_evAll)) he) T no
  have m4 : ∀ {R : Pr}, Mono R → ∀ Q ∈ [R, R, R, R], Mono Q := fun m => mono_cons m (mono_cons m (mono_cons m (mono_cons m mono_nil)))
  have m3 : ∀ {R : Pr}, Mono R → ∀ Q ∈ [R, R, R], Mono Q := fun m => mono_cons m (mono_cons m (mono_cons m mono_nil))
  have m1 : ∀ {R : Pr}, Mono R → ∀ Q ∈ [R], Mono Q := fun m => mono_cons m mono_nil
  refine set_go (P := lstN [is wv, is wv, is wv, is wv]) (evp_lstN (evs_cons (fl 6 rfl (Ex.refl H) rfl (Z.ask 6 (by decide)) J.f_6) mono_is (evs_cons (fl 12 rfl (Ex.refl H) rfl (Z.ask 12 (by decide)) J.f_12) mono_is
    (evs_cons (fl 13 rfl (Ex.refl H) rfl (Z.ask 13 (by decide)) J.f_13) mono_is (evs_cons (fl 15 rfl (Ex.refl H) rfl (Z.ask 15 (by decide)) J.f_15) mono_is evs_nil)))) (m4 mono_is) (Nat.le_of_ble_eq_true rfl)) fun v1 H1 e1 h1 => ?_
  refine set_go (P := lstN [tupV K xs, tupV K xs, tupV K xs]) (evp_lstN (evs_cons (fl 8 rfl e1 rfl (Z.ask 8 (by decide)) J.f_8) mono_tupV (evs_cons (fl 9 rfl e1 rfl (Z.ask 9 (by decide)) J.f_9) mono_tupV
    (evs_cons (fl 10 rfl e1 rfl (Z.ask 10 (by decide)) J.f_10) mono_tupV evs_nil))) (m3 mono_tupV) (Nat.le_of_ble_eq_true rfl)) fun v2 H2 e2 h2 => ?_
  have a2 := e1.trans e2
  refine set_go (P := lstN [is n, is n, is n]) (evp_lstN (evs_cons (fl 11 rfl a2 rfl (Z.ask 11 (by decide)) J.f_11) mono_is (evs_cons (fl 14 rfl a2 rfl (Z.ask 14 (by decide)) J.f_14) mono_is
    (evs_cons (fl 18 rfl a2 rfl (Z.ask 18 (by decide)) J.f_18) mono_is evs_nil))) (m3 mono_is) (Nat.le_of_ble_eq_true rfl)) fun v3 H3 e3 h3 => ?_
  have a3 := a2.trans e3
  refine set_go (P := lstN [is o, is o, is o]) (evp_lstN (evs_cons (fl 7 rfl a3 rfl (Z.ask 7 (by decide)) J.f_7) mono_is (evs_cons (fl 16 rfl a3 rfl (Z.ask 16 (by decide)) J.f_16) mono_is
    (evs_cons (fl 17 rfl a3 rfl (Z.ask 17 (by decide)) J.f_17) mono_is evs_nil))) (m3 mono_is) (Nat.le_of_ble_eq_true rfl)) fun v4 H4 e4 h4 => ?_
  have a4 := a3.trans e4
  have hl' : ∀ {H' : Hp}, Ex H H' → SqL K H' l xs ∨ SqT K H' l xs := fun e => by
    rcases hl with hl | hl
    · exact .inl (Evl.ex_l e hl)
    · exact .inr (Evl.ex_t e hl)
  have d1 : ∀ {x : V} {dx : PyData} {H' : Hp}, Dq K H' x dx → ∀ v, is x v H' → Dq K H' v dx := fun h v hv => by
    obtain rfl : v = _ := hv
    exact h
  have dL : ∀ {Ps : List Pr} {es : List PyData} {H' : Hp}, DsOf K H' Ps es → ∀ v, lstN Ps v H' → Dq K H' v (.list es) := fun g v hv => by
    obtain ⟨p, vs, rfl, np, hp, hk⟩ := hv
    exact .lst np (SqL.of hp) (dqAll_of hk g)
  have rp : ∀ {te tb : TE} {σ : St} {H' : Hp} {Ps : List Pr} (es : List PyData), EvP te σ H' (lstN Ps) → EvP tb σ H' (lstN Ps) → (∀ {H2 : Hp}, Ex H' H2 → DsOf K H2 Ps es) → okB (.list es) = true →
       Ev (tOp rNe (tCB (rRepr K) (tCons te tNil)) (tCB (rRepr K) (tCons tb tNil))) σ H' (.bl false) ∧
        Ev (tOp rEq (tCB (rRepr K) (tCons te tNil)) (tCB (rRepr K) (tCons tb tNil))) σ H' (.bl true) := by
    intro te tb σ H' Ps es h1 h2 g ok
    have r1 := ev_of (evp_repr h1 (fun v H2 e hv => dL (g e) v hv) ok)
    have r2 := ev_of (evp_repr h2 (fun v H2 e hv => dL (g e) v hv) ok)
    exact ⟨Evl.ev_is (Evl.ev_op r1 r2 (Evl.rv_ne rfl)) (by simp), Evl.ev_is (Evl.ev_op r1 r2 (Evl.rv_eq rfl)) (by simp)⟩
  have one : ∀ {te : TE} {σ : St} {H' : Hp} {R : Pr} (n : Nat), n ≤ 1000 → EvP te σ H' R → Mono R → EvP (tOp rRepN (tLstN (tCons te tNil)) (tC (.int (n : Int)))) σ H' (lstN (List.replicate n R)) :=
    fun n hn h m => evp_repN (evp_lstN (evs_cons h m evs_nil) (m1 m) (Nat.le_of_ble_eq_true rfl)) m hn
  have h1' := mono_lstN (m4 mono_is) _ _ _ ((e2.trans e3).trans e4) h1
  have h2' := mono_lstN (m3 mono_tupV) _ _ _ (e3.trans e4) h2
  have h3' := mono_lstN (m3 mono_is) _ _ _ e4 h3
  have dt : ∀ {H' : Hp}, Ex H H' → ∀ v, tupV K xs v H' → Dq K H' v (.tuple ds) := fun e v hv => by
    obtain ⟨t, rfl, ht⟩ := hv
    exact .tup ht (DqAll.mono e ds _ hx)
  refine if_go (b := false) (Evl.et_is (Evl.et_or (Evl.et_test (rp [dw, dw, dw, dw] (evp_held rfl h1' (mono_lstN (m4 mono_is))) (one 4 (by decide) (evp_var rfl) mono_is)
      (fun e => have z := d1 (Dq.mono (a4.trans e) dw _ hw); ⟨z, z, z, z, True.intro⟩) o1).1)
    fun _ => Evl.et_test (rp [.tuple ds, .tuple ds, .tuple ds] (evp_held rfl h2' (mono_lstN (m3 mono_tupV))) (one 3 (by decide) (evp_tupOf (evp_var rfl) (hl' a4)) mono_tupV)
      (fun e => have z := dt (a4.trans e); ⟨z, z, z, True.intro⟩) o4).1) rfl) (fun H5 e5 z => by cases z) fun H5 e5 _ => ?_
  have a5 := a4.trans e5
  have h4' := mono_lstN (m3 mono_is) _ _ _ e5 h4
  have h3'' := mono_lstN (m3 mono_is) _ _ _ e5 h3'
  refine ret_go (P := is (.bl true)) (evp_ev (Evl.ev_is (Evl.ev_andV (rp [dn, dn, dn] (evp_held rfl h3'' (mono_lstN (m3 mono_is))) (one 3 (by decide) (evp_var rfl) mono_is)
      (fun e => have z := d1 (Dq.mono (a5.trans e) dn _ hn); ⟨z, z, z, True.intro⟩) o2).2
    fun _ => (rp [d, d, d] (evp_held rfl h4' (mono_lstN (m3 mono_is))) (one 3 (by decide) (evp_var rfl) mono_is)
      (fun e => have z := d1 (Dq.mono (a5.trans e) d _ ho); ⟨z, z, z, True.intro⟩) o3).2) rfl)) fun u H6 e6 hu => ?_
  obtain rfl : u = .bl true := hu
  exact q H6 (a5.trans e6)
end
end L2.Vf.K00
namespace L2.Vf.K00
open PySem PySem.Spec PyProof.Rows
open Evl (Ex Ev EvT EvL EvA)
abbrev s_law : Stmt := top 29
/-- the heap without the source of draws -/
def hide (p c : Addr) (H : Hp) : Hp := fun b => if b = p ∨ b = c then none else H b
def Kn (p c : Addr) (H : Hp) : Prop := (∃ o, H p = some o) ∧ ∃ o, H c = some o
section
variable {K : PySem.W.Frag} {σ : St} {H H' : Hp} {p c q : Addr} {ta : TA} {te : TE} {d : PyData} {ds : List PyData} {v : V}
theorem hide_off (h1 : q ≠ p) (h2 : q ≠ c) : hide p c H q = H q := if_neg fun z => z.elim h1 h2
theorem hide_ex : Ex (hide p c H) H := fun b o h => by
  by_cases z : b = p ∨ b = c
  · rw [hide, if_pos z] at h
    cases h
  · rwa [hide, if_neg z] at h
theorem hide_mono (e : Ex H H') : Ex (hide p c H) (hide p c H') := fun b o h => by
  by_cases z : b = p ∨ b = c
  · rw [hide, if_pos z] at h
    cases h
  · rw [hide, if_neg z] at h ⊢
    exact e b o h
theorem hide_but (e : But p c H H') : Ex (hide p c H) (hide p c H') := fun b o h => by
  by_cases z : b = p ∨ b = c
  · rw [hide, if_pos z] at h
    cases h
  · rw [hide, if_neg z] at h ⊢
    exact e b o (fun y => z (.inl y)) (fun y => z (.inr y)) h
theorem Kn.ex (k : Kn p c H) (e : Ex H H') : Kn p c H' := by
  obtain ⟨⟨o1, h1⟩, o2, h2⟩ := k
  exact ⟨⟨o1, e _ _ h1⟩, o2, e _ _ h2⟩
theorem hide_new {o : HO} (k : Kn p c H) (n : H q = none) : hide p c (upd H q o) q = some o := by
  obtain ⟨⟨o1, h1⟩, o2, h2⟩ := k
  rw [hide_off (fun z => by rw [z, h1] at n; cases n) (fun z => by rw [z, h2] at n; cases n), upd_same]
theorem Src.ex (h : Src H p c) (e : Ex H H') : Src H' p c := by
  obtain ⟨cells, l, m, t, h1, h2⟩ := h
  exact ⟨cells, l, m, t, e _ _ h1, e _ _ h2⟩
theorem Src.kn (h : Src H p c) : Kn p c H := by
  obtain ⟨cells, l, m, t, h1, h2⟩ := h
  exact ⟨⟨_, h1⟩, _, h2⟩
/-- this data, away from the source -/
def dq (K : PySem.W.Frag) (p c : Addr) (d : PyData) : Pr := fun v H => Dq K (hide p c H) v d
theorem mono_dq : Mono (dq K p c d) := fun v H H' e h => Dq.mono (hide_mono e) d v h
theorem dqAll_map : ∀ {ds : List PyData} {vs : List V}, AllP (ds.map (dq K p c)) vs H → DqAll K (hide p c H) vs ds
  | [], [], _ => .nil
  | _ :: _, _ :: _, h => .cons h.1 (dqAll_map h.2)
  | [], _ :: _, h => h.elim
  | _ :: _, [], h => h.elim
theorem evp_dqC {x : V} (h : EvP te σ H (is x)) (hd : ∀ H', Dq K H' x d) : EvP te σ H (dq K p c d) := h.to fun v H' _ hv => by
  obtain rfl : v = x := hv
  exact hd _
theorem evs_dq (h : EvP te σ H (dq K p c d)) (hr : EvPs ta σ H (ds.map (dq K p c))) : EvPs (tCons te ta) σ H ((d :: ds).map (dq K p c)) := evs_cons h mono_dq hr
theorem evp_dqL (k : Kn p c H) (h : EvPs ta σ H (ds.map (dq K p c))) (hl : ds.length ≤ 1000) : EvP (tLstN ta) σ H (dq K p c (.list ds)) := fun H1 e Q q0 =>
  h H1 e _ fun vs H2 e2 a => ⟨Nat.le_of_lt (small1000 (by rw [a.len, List.length_map]; exact hl)), fun r hr nr =>
    q0 (.ref r) _ (e2.trans (Ex.new hr)) (.lst nr (SqL.of (hide_new (k.ex (e.trans e2)) hr)) (DqAll.mono (hide_mono (Ex.new hr)) ds _ (dqAll_map a)))⟩
theorem evp_dqT (k : Kn p c H) (h : EvPs ta σ H (ds.map (dq K p c))) (hl : ds.length ≤ 1000) : EvP (tTup ta) σ H (dq K p c (.tuple ds)) := fun H1 e Q q0 =>
  h H1 e _ fun vs H2 e2 a => ⟨Nat.le_of_lt (small1000 (by rw [a.len, List.length_map]; exact hl)), fun r hr =>
    q0 (.ref r) _ (e2.trans (Ex.new hr)) (.tup (SqT.of (hide_new (k.ex (e.trans e2)) hr)) (DqAll.mono (hide_mono (Ex.new hr)) ds _ (dqAll_map a)))⟩
theorem evp_dq0 (k : Kn p c H) : EvP tDNewK σ H (dq K p c (.dict [])) := fun H1 e Q q0 r hr =>
  q0 (.ref r) _ (Ex.new hr) (.dct (hide_new (k.ex e) hr) .nil)
theorem evp_dq1 (k : Kn p c H) {y : Str} {n : Int} : EvP (tDisp [(tC (.str y), tC (.int n))]) σ H (dq K p c (.dict [(.str y, .int n)])) := fun H1 e Q q0 r hr => by
  refine ⟨upd_same, [(.inr y, .int n)], rfl, (by show (1 : Nat) ≤ 15; decide), q0 (.ref r) _ ((Ex.new hr).mut hr) (.dct (kvs := [(.inr y, .int n)]) ?_ (.cons (k := .inr y) (.int n) .nil))⟩
  obtain ⟨⟨o1, h1⟩, o2, h2⟩ := k.ex e
  rw [hide_off (fun z => by rw [z, h1] at hr; cases hr) (fun z => by rw [z, h2] at hr; cases hr), upd_same]
  rfl
theorem sub_lst {vv : V} (h : Dq K H vv (.list ds)) : ∃ a xs, vv = .ref a ∧ SqL K H a xs ∧ DqAll K H xs ds := by
  cases h with
  | lst _ h1 h2 => exact ⟨_, _, rfl, h1, h2⟩
theorem sub_tup {vv : V} (h : Dq K H vv (.tuple ds)) : ∃ a xs, vv = .ref a ∧ SqT K H a xs ∧ DqAll K H xs ds := by
  cases h with
  | tup h1 h2 => exact ⟨_, _, rfl, h1, h2⟩
theorem dqAll_get : ∀ {ds : List PyData} {vs : List V} {j : Nat}, DqAll K H vs ds → j < ds.length → ∃ v d, vs[j]? = some v ∧ ds[j]? = some d ∧ Dq K H v d
  | d :: ds, _, 0, h, _ => by
    cases h with
    | cons h1 _ => exact ⟨_, d, rfl, rfl, h1⟩
  | d :: ds, _, j + 1, h, l => by
    cases h with
    | cons _ h2 =>
      obtain ⟨v, e, h3, h4, h5⟩ := dqAll_get (j := j) h2 (Nat.lt_of_succ_lt_succ l)
      exact ⟨v, e, by simpa using h3, by simpa using h4, h5⟩
  | [], _, _, _, l => absurd l (Nat.not_lt_zero _)
/-- one of a menu is picked -/
theorem menu_go {tl : TE} {n : Int} {i : Nat} {u : TS} {D : Ends} {E : XK} (hs : σ[1]? = some (some (.ref p))) (hS : Src H p c) (hL : EvP tl σ H (dq K p c (.list ds)))
    (hn : n = ds.length) (h1 : 1 ≤ n) (h2 : n < 1000000)
    (k : ∀ d v H', d ∈ ds → dq K p c d v H' → Src H' p c → Ex (hide p c H) (hide p c H') → u D (σ.set i (some v)) H') :
    tSeq (tAsg (tOp (rIxL K) tl (tCall spPick [] E (tCons (tVar 1) (tCons (tC (.int n)) tNil)))) (gName i)) u D σ H := by
  refine hL H (Ex.refl H) _ fun x H2 e2 hx => ⟨_, hs, p, c, n, rfl, hS.ex e2, h1, h2, fun r H3 r0 rn hS3 hb => ?_⟩
  have e3 := hide_but hb
  obtain ⟨a, xs, rfl, ha, hd⟩ := sub_lst (Dq.mono e3 _ _ hx)
  obtain ⟨j, rfl⟩ := Int.eq_ofNat_of_zero_le r0
  obtain ⟨v, d, g1, g2, g3⟩ := dqAll_get (j := j) hd (by omega)
  exact ⟨a, xs, (j : Int), v, rfl, rfl, Evl.ex_l hide_ex ha, atI_nat g1, k d v H3 (List.mem_of_getElem? g2) g3 hS3 ((hide_mono e2).trans e3)⟩
end
/-- what the words are, the numbers, the paths, the others -/
abbrev dWords : List PyData := [.str "", .str "x", .str "no such name", .none, .str (Txt.mul "x" 100), .tuple [.str "a"], .int 0, .list [.str "a", .dict []]]
abbrev gr : Int := 1000000000000000000000000000000
abbrev dNums : List PyData := [.int 0, .int 1, .int 7, .int 200, .int gr, .int (-1), .none]
abbrev dSomes : List PyData := [.list [.str "a", .str "b"], .list [], .tuple [.str "a"], .list [.int 0, .int 1, .int 0], .tuple [.tuple [.str "x", .str "y"]], .list [.list []]]
abbrev dOthers : List PyData := [.tuple [], .tuple [.int 0, .int 1], .list [.int 0, .int 1], .none, .str "path", .dict [(.str "a", .int 0)], .tuple [.tuple [.str "r", .str "m", .tuple []], .str "x"], .bool true]
theorem ok_w : ∀ d ∈ dWords, okB (.list [d, d, d, d]) = true := by decide +kernel
theorem ok_n : ∀ d ∈ dNums, okB (.list [d, d, d]) = true := by decide +kernel
theorem ok_o : ∀ d ∈ dOthers, okB (.list [d, d, d]) = true := by decide +kernel
def itemsOf : PyData → List PyData
  | .list ds => ds
  | .tuple ds => ds
  | _ => []
theorem ok_s : ∀ d ∈ dSomes, okB (.list [.tuple (itemsOf d), .tuple (itemsOf d), .tuple (itemsOf d)]) = true := by decide +kernel
def isSeq : PyData → Bool
  | .list _ => true
  | .tuple _ => true
  | _ => false
theorem seq_s : ∀ d ∈ dSomes, isSeq d = true := by decide +kernel
theorem sub_seq {K : PySem.W.Frag} {H : Hp} {v : V} : ∀ {d : PyData}, Dq K H v d → isSeq d = true → ∃ a xs, v = .ref a ∧ (SqL K H a xs ∨ SqT K H a xs) ∧ DqAll K H xs (itemsOf d)
  | .list ds, h, _ => by
    obtain ⟨a, xs, e, h1, h2⟩ := sub_lst h
    exact ⟨a, xs, e, .inl h1, h2⟩
  | .tuple ds, h, _ => by
    obtain ⟨a, xs, e, h1, h2⟩ := sub_tup h
    exact ⟨a, xs, e, .inr h1, h2⟩
  | .none, _, z => by cases z
  | .bool _, _, z => by cases z
  | .int _, _, z => by cases z
  | .str _, _, z => by cases z
  | .dict _, _, z => by cases z
end L2.Vf.K00
namespace L2.Vf.K00
open PySem PySem.Spec PyProof.Rows
open Evl (Ex Ev EvT EvL EvA)
def spLaw (K : PySem.W.Frag) : Sp := fun vs H Q _ => ∃ (a : Addr) (ns : List Int), vs = [.ref a] ∧ SqL K H a (ns.map V.int) ∧ ns.length ≤ 63 ∧ ∀ H', Q (.bl true) H'
section
variable {P : Program} {w : World} {K : PySem.W.Frag} {mg : Str → Option Value} {base : Heap} {f ca cn : Addr} {c : Nat → Addr} {fd : FuncData}
structure Own (P : Program) (w : World) (K : PySem.W.Frag) (mg : Str → Option Value) (base : Heap) (c : Nat → Addr) : Prop where
  source : ∃ f fd, FnOk P w K mg base CX0 1 f fd ["_law_script"] (spSource K) ∧ mg "_law_source" = some (.ref f) ∧ PySem.W.keepIn K (.ref f) = true ∧ Binds K fd ["_law_script"] []
  pick : ∃ f fd, FnOk P w K mg base CX0 1 f fd ["_law_source_here", "_law_many"] spPick ∧ mg "_law_pick" = some (.ref f) ∧ PySem.W.keepIn K (.ref f) = true ∧ Binds K fd ["_law_source_here", "_law_many"] []
  kinds : ∃ f fd, FnOk P w K mg base CX0 1 f fd ["_law_e"] (spRow c rowK) ∧ mg "_law_kinds" = some (.ref f) ∧ PySem.W.keepIn K (.ref f) = true ∧ Binds K fd ["_law_e"] []
  bases : ∃ f fd, FnOk P w K mg base CX0 1 f fd ["_law_e"] (spRow c rowB) ∧ mg "_law_bases" = some (.ref f) ∧ PySem.W.keepIn K (.ref f) = true ∧ Binds K fd ["_law_e"] []
  every : ∃ f fd, FnOk P w K mg base CX0 3 f fd ["_law_word", "_law_number", "_law_some", "_law_other"] (spEvery K c) ∧ mg "_law_every" = some (.ref f) ∧ PySem.W.keepIn K (.ref f) = true ∧ Binds K fd ["_law_word", "_law_number", "_law_some", "_law_other"] []
  kept : ∃ f fd, FnG P w K mg base CX0 1 f fd ["_law_every_here", "_law_word", "_law_number", "_law_some", "_law_other"] (spKept K c) ∧ mg "_law_kept" = some (.ref f) ∧ PySem.W.keepIn K (.ref f) = true ∧ Binds K fd ["_law_every_here", "_law_word", "_law_number", "_law_some", "_law_other"] []
theorem mul_ok0 : MulOk "0" 30 := ⟨by decide +kernel, fun _ _ => by decide +kernel, fun _ _ => by decide +kernel⟩
theorem mul_ok1 : MulOk "x" 100 := ⟨by decide +kernel, fun _ _ => by decide +kernel, fun _ _ => by decide +kernel⟩
theorem ev_mulx {σ : St} {H : Hp} : Ev (tOp (fun x y H Q => ∃ (z : Str) (n : Int), x = .str z ∧ y = .int n ∧ MulOk z n ∧ Q (.str (Txt.mul z n)) H) (tC (.str "x")) (tC (.int 100))) σ H (.str (Txt.mul "x" 100)) :=
  Evl.ev_op Evl.ev_c Evl.ev_c fun H1 _ Q q => ⟨_, _, rfl, rfl, mul_ok1, q H1 (Ex.refl H1)⟩
/-- a list of just these -/
def lstV (xs : List V) : Pr := fun v H => ∃ t, v = .ref t ∧ H t = some (.lst xs)
def bitsK (k : Nat) : List Bool := [decide (0 = k), decide (1 = k), decide (2 = k), decide (3 = k), decide (4 = k), decide (5 = k), decide (6 = k), decide (7 = k), decide (8 = k), decide (9 = k), decide (10 = k),
  decide (11 = k), decide (12 = k), decide (13 = k), decide (14 = k), decide (15 = k), decide (16 = k), decide (17 = k), decide (18 = k)]
def bitsB (k : Nat) : List Bool := [decide (k < 15), decide (k < 15), decide (15 ≤ k), decide (15 ≤ k)]
theorem bits_ok : ∀ k, k < 19 → SeqAt.shaped (.list ((bitsK k).map PyData.bool)) = true ∧ PyData.eqv (.list ((bitsK k).map PyData.bool)) (.list ((bitsK k).map PyData.bool)) = true := by decide +kernel
theorem bitsB_ok : ∀ k, k < 19 → SeqAt.shaped (.list ((bitsB k).map PyData.bool)) = true ∧ PyData.eqv (.list ((bitsB k).map PyData.bool)) (.list ((bitsB k).map PyData.bool)) = true := by decide +kernel
theorem dp_bits {H : Hp} : ∀ bs : List Bool, DpAll K H (bs.map V.bl) (bs.map PyData.bool)
  | [] => .nil
  | b :: bs => .cons (.bl b) (dp_bits bs)
theorem ne_rows {ta tb : TE} {σ : St} {H : Hp} {bs : List Bool} (ok : SeqAt.shaped (.list (bs.map PyData.bool)) = true ∧ PyData.eqv (.list (bs.map PyData.bool)) (.list (bs.map PyData.bool)) = true)
    (ha : EvP ta σ H (lstV (bs.map V.bl))) (hb : EvP tb σ H (lstV (bs.map V.bl))) : EvT (tTest (tOp (rNeD K) ta tb)) σ H false := fun H1 e Q q =>
  ha H1 e _ fun x H2 e2 hx => hb H2 (e.trans e2) _ fun y H3 e3 hy => by
    obtain ⟨t, rfl, ht⟩ := hx
    obtain ⟨u, rfl, hu⟩ := hy
    refine ⟨.list (bs.map PyData.bool), .list (bs.map PyData.bool), .lst (SqL.of (e3 _ _ ht)) (dp_bits bs), .lst (SqL.of hu) (dp_bits bs), ok.1, ok.1, false, by rw [ok.2]; rfl, q H3 (e2.trans e3)⟩
abbrev n_law : List Str := ["_law_script", "_law_source_here", "_law_great", "_law_lap", "_law_word", "_law_number", "_law_some", "_law_other", "_law_every_here", "_law_k", "_law_j"]
theorem sc_law : FnScope n_law ["_law_script"] (defScope s_law) := ⟨rfl, rfl, rfl, by decide +kernel, rfl, by decide +kernel, by decide +kernel⟩
theorem ok_law (F : Fun K "law" "law" s_law f fd) (m_int : mg "int" = none) (m_range : mg "range" = none) (m_len : mg "len" = none) (O : Own P w K mg base c) :
    FnG P w K mg base CX0 4 f fd ["_law_script"] (spLaw K) := by
  obtain ⟨⟨f1, fd1, G__law_source, m__law_source, k__law_source, b__law_source⟩, ⟨f2, fd2, G__law_pick, m__law_pick, k__law_pick, b__law_pick⟩, ⟨f3, fd3, G__law_kinds, m__law_kinds, k__law_kinds, b__law_kinds⟩,
    ⟨f4, fd4, G__law_bases, m__law_bases, k__law_bases, b__law_bases⟩, ⟨f5, fd5, G__law_every, m__law_every, k__law_every, b__law_every⟩, ⟨f6, fd6, G__law_kept, m__law_kept, k__law_kept, b__law_kept⟩⟩ := O
  refine okG F sc_law (fun vs H Q E h => ?_) (fun cdv A outer s H vs Q E hgu hr h => ?_)
  · obtain ⟨a, ns, rfl, _⟩ := h
    rfl
  obtain ⟨a, ns, rfl, hS, hl, q⟩ := h
  have hu := hu_of hr
  refine ⟨_, (pss_cons (ps_set (i := 1) sc_law.nd rfl (.inl rfl) (pe_call G__law_source (hr.mono (by decide)) (by rfl) m__law_source k__law_source b__law_source .nil pass0 (pa_cons (pv 0) pa_nil)))
  (pss_cons (ps_set (i := 2) sc_law.nd rfl (.inl rfl) (pe_callTy call_int_str (by rfl) m_int (by decide +kernel) (pa_cons (pe_op op_add_str pe_str (pe_op op_mulS pe_str pe_int)) pa_nil)))
  (pss_cons (ps_for PassesOwn.never rfl (pi_range1 rfl m_range (pa_cons pe_int pa_nil)) (pg_name (i := 3) sc_law.nd rfl (.inl rfl))
  (pss_cons (ps_set (i := 4) sc_law.nd rfl (.inl rfl) (pe_ix (ix_listK (K := K)) (pe_lstN (pa_cons pe_str (pa_cons pe_str (pa_cons pe_str (pa_cons pe_non (pa_cons (pe_op op_mulS pe_str pe_int) (pa_cons (pe_tup (pa_cons pe_str pa_nil)) (pa_cons pe_int (pa_cons (pe_lstN (pa_cons pe_str (pa_cons pe_dnewK pa_nil))) pa_nil))))))))) (pe_call G__law_pick (hr.mono (by decide)) (by rfl) m__law_pick k__law_pick b__law_pick .nil pass0 (pa_cons (pv 1) (pa_cons pe_int pa_nil))) (fun _ _ => rfl)))
  (pss_cons (ps_set (i := 5) sc_law.nd rfl (.inl rfl) (pe_ix (ix_listK (K := K)) (pe_lstN (pa_cons pe_int (pa_cons pe_int (pa_cons pe_int (pa_cons pe_int (pa_cons (pv 2) (pa_cons (pe_un un_neg pe_int) (pa_cons pe_non pa_nil)))))))) (pe_call G__law_pick (hr.mono (by decide)) (by rfl) m__law_pick k__law_pick b__law_pick .nil pass0 (pa_cons (pv 1) (pa_cons pe_int pa_nil))) (fun _ _ => rfl)))
  (pss_cons (ps_set (i := 6) sc_law.nd rfl (.inl rfl) (pe_ix (ix_listK (K := K)) (pe_lstN (pa_cons (pe_lstN (pa_cons pe_str (pa_cons pe_str pa_nil))) (pa_cons (pe_lstN pa_nil) (pa_cons (pe_tup (pa_cons pe_str pa_nil)) (pa_cons (pe_lstN (pa_cons pe_int (pa_cons pe_int (pa_cons pe_int pa_nil)))) (pa_cons (pe_tup (pa_cons (pe_tup (pa_cons pe_str (pa_cons pe_str pa_nil))) pa_nil)) (pa_cons (pe_lstN (pa_cons (pe_lstN pa_nil) pa_nil)) pa_nil))))))) (pe_call G__law_pick (hr.mono (by decide)) (by rfl) m__law_pick k__law_pick b__law_pick .nil pass0 (pa_cons (pv 1) (pa_cons pe_int pa_nil))) (fun _ _ => rfl)))
  (pss_cons (ps_set (i := 7) sc_law.nd rfl (.inl rfl) (pe_ix (ix_listK (K := K)) (pe_lstN (pa_cons (pe_tup pa_nil) (pa_cons (pe_tup (pa_cons pe_int (pa_cons pe_int pa_nil))) (pa_cons (pe_lstN (pa_cons pe_int (pa_cons pe_int pa_nil))) (pa_cons pe_non (pa_cons pe_str (pa_cons (pe_disp (pps_cons pe_str pe_int pps_nil) rfl rfl (fun z => by cases z) (by decide)) (pa_cons (pe_tup (pa_cons (pe_tup (pa_cons pe_str (pa_cons pe_str (pa_cons (pe_tup pa_nil) pa_nil)))) (pa_cons pe_str pa_nil))) (pa_cons pe_bl pa_nil))))))))) (pe_call G__law_pick (hr.mono (by decide)) (by rfl) m__law_pick k__law_pick b__law_pick .nil pass0 (pa_cons (pv 1) (pa_cons pe_int pa_nil))) (fun _ _ => rfl)))
  (pss_cons (ps_set (i := 8) sc_law.nd rfl (.inl rfl) (pe_call G__law_every (hr.mono (by decide)) (by rfl) m__law_every k__law_every b__law_every .nil pass0 (pa_cons (pv 4) (pa_cons (pv 5) (pa_cons (pv 6) (pa_cons (pv 7) pa_nil))))))
  (pss_cons (ps_for PassesOwn.never rfl (pi_range1 rfl m_range (pa_cons (pe_callB (call_lenK (K := K)) (by rfl) m_len PySem.boot_len (pa_cons (pv 8) pa_nil)) pa_nil)) (pg_name (i := 9) sc_law.nd rfl (.inr rfl))
  (pss_cons (ps_if (pt_cmpR (op_neDK (K := K) hr.units) (pe_call G__law_kinds (hr.mono (by decide)) (by rfl) m__law_kinds k__law_kinds b__law_kinds .nil pass0 (pa_cons (pe_ix (ix_listK (K := K)) (pv 8) (pv 9) (fun _ _ => rfl)) pa_nil)) (pe_lc (own := [("_law_j", 10)]) (g := gName 10) (tt := _) rfl sc_law.nd (pi_range1 rfl m_range (pa_cons (pe_callB (call_lenK (K := K)) (by rfl) m_len PySem.boot_len (pa_cons (pv 8) pa_nil)) pa_nil)) (blkOk_by (N := n_law) (sc := defScope s_law) (by decide +kernel)) (fun _ _ _ _ _ => (pg_name (i := 10) sc_law.nd rfl (.inl rfl))) (fun _ _ _ _ _ => pts_nil) (fun _ _ _ _ _ => (pe_cmpR op_eq (pv 10) (pv 9) (nomark _)))) (nomark _))
  (pss_one (ps_ret pe_bl))
  pss_nil)
  (pss_one (ps_if (pt_cmpR (op_neDK (K := K) hr.units) (pe_call G__law_bases (hr.mono (by decide)) (by rfl) m__law_bases k__law_bases b__law_bases .nil pass0 (pa_cons (pe_ix (ix_listK (K := K)) (pv 8) (pv 9) (fun _ _ => rfl)) pa_nil)) (pe_lstN (pa_cons (pe_cmpR op_lt (pv 9) pe_int (nomark _)) (pa_cons (pe_cmpR op_lt (pv 9) pe_int (nomark _)) (pa_cons (pe_cmpR op_ge (pv 9) pe_int (nomark _)) (pa_cons (pe_cmpR op_ge (pv 9) pe_int (nomark _)) pa_nil))))) (nomark _))
  (pss_one (ps_ret pe_bl))
  pss_nil))))
  (pss_one (ps_if (PW.pt (pw_or (pt_cmpR op_ne (pe_callB (call_lenK (K := K)) (by rfl) m_len PySem.boot_len (pa_cons (pv 8) pa_nil)) pe_int (nomark _)) (pw_or1 (pt_not (pt_truth (pe_callG G__law_kept hgu (hr.mono (by decide)) (by rfl) m__law_kept k__law_kept b__law_kept pass0 (pa_cons (pv 8) (pa_cons (pv 4) (pa_cons (pv 5) (pa_cons (pv 6) (pa_cons (pv 7) pa_nil)))))) (by intro _; rfl))))))
  (pss_one (ps_ret pe_bl))
  pss_nil)))))))))
  (pss_one (ps_ret pe_bl))))), ?_⟩
  refine ⟨_, rfl, a, ns, rfl, hS, hl, fun p cc H1 np nc e1 S1 => ?_⟩
  refine ⟨_, _, rfl, rfl, mul_ok0, _, _, rfl, rfl, (by decide +kernel), _, gr, rfl, (by decide +kernel), (by decide +kernel), ?_⟩
  refine ⟨_, rfl, (by decide), (by decide), for_range (lo := 0) (n := 2) (fun i σ H' => ∃ y3 y4 y5 y6 y7 y8 y9 y10 : Option V,
    σ = [some (.ref a), some (.ref p), some (.int gr), y3, y4, y5, y6, y7, y8, y9, y10] ∧ Src H' p cc) ⟨none, none, none, none, none, none, none, none, rfl, S1⟩ ?_ ?_⟩
  · rintro i σ H2 hi ⟨y3, y4, y5, y6, y7, y8, y9, y10, rfl, S2⟩
    refine menu_go (ds := dWords) rfl S2 (evp_dqL S2.kn (evs_dq (evp_dqC evp_c fun _ => .str _) (evs_dq (evp_dqC evp_c fun _ => .str _) (evs_dq (evp_dqC evp_c fun _ => .str _) (evs_dq (evp_dqC evp_c fun _ => .non) (evs_dq (evp_dqC (evp_ev ev_mulx) fun _ => .str _) (evs_dq (evp_dqT S2.kn (evs_dq (evp_dqC evp_c fun _ => .str _) evs_nil) (Nat.le_of_ble_eq_true rfl)) (evs_dq (evp_dqC evp_c fun _ => .int _) (evs_dq (evp_dqL S2.kn (evs_dq (evp_dqC evp_c fun _ => .str _) (evs_dq (evp_dq0 S2.kn) evs_nil)) (Nat.le_of_ble_eq_true rfl)) evs_nil)))))))) (Nat.le_of_ble_eq_true rfl)) rfl (by decide) (by decide) fun dw wv H3 mw hw S3 x3 => ?_
    refine menu_go (ds := dNums) rfl S3 (evp_dqL S3.kn (evs_dq (evp_dqC evp_c fun _ => .int _) (evs_dq (evp_dqC evp_c fun _ => .int _) (evs_dq (evp_dqC evp_c fun _ => .int _) (evs_dq (evp_dqC evp_c fun _ => .int _) (evs_dq (evp_dqC (evp_var rfl) fun _ => .int _) (evs_dq (evp_dqC (evp_ev (Evl.ev_un Evl.ev_c Evl.ru_neg)) fun _ => .int _) (evs_dq (evp_dqC evp_c fun _ => .non) evs_nil))))))) (Nat.le_of_ble_eq_true rfl)) rfl (by decide) (by decide) fun dn nv H4 mn hn S4 x4 => ?_
    refine menu_go (ds := dSomes) rfl S4 (evp_dqL S4.kn (evs_dq (evp_dqL S4.kn (evs_dq (evp_dqC evp_c fun _ => .str _) (evs_dq (evp_dqC evp_c fun _ => .str _) evs_nil)) (Nat.le_of_ble_eq_true rfl)) (evs_dq (evp_dqL S4.kn evs_nil (Nat.le_of_ble_eq_true rfl)) (evs_dq (evp_dqT S4.kn (evs_dq (evp_dqC evp_c fun _ => .str _) evs_nil) (Nat.le_of_ble_eq_true rfl)) (evs_dq (evp_dqL S4.kn (evs_dq (evp_dqC evp_c fun _ => .int _) (evs_dq (evp_dqC evp_c fun _ => .int _) (evs_dq (evp_dqC evp_c fun _ => .int _) evs_nil))) (Nat.le_of_ble_eq_true rfl)) (evs_dq (evp_dqT S4.kn (evs_dq (evp_dqT S4.kn (evs_dq (evp_dqC evp_c fun _ => .str _) (evs_dq (evp_dqC evp_c fun _ => .str _) evs_nil)) (Nat.le_of_ble_eq_true rfl)) evs_nil) (Nat.le_of_ble_eq_true rfl)) (evs_dq (evp_dqL S4.kn (evs_dq (evp_dqL S4.kn evs_nil (Nat.le_of_ble_eq_true rfl)) evs_nil) (Nat.le_of_ble_eq_true rfl)) evs_nil)))))) (Nat.le_of_ble_eq_true rfl)) rfl (by decide) (by decide) fun dz zv H5 mz hz S5 x5 => ?_
    obtain ⟨l, xs, rfl, hz1, hz2⟩ := sub_seq (Dq.mono (hide_mono (Ex.refl H5)) _ _ hz) (seq_s dz mz)
    refine menu_go (ds := dOthers) rfl S5 (evp_dqL S5.kn (evs_dq (evp_dqT S5.kn evs_nil (Nat.le_of_ble_eq_true rfl)) (evs_dq (evp_dqT S5.kn (evs_dq (evp_dqC evp_c fun _ => .int _) (evs_dq (evp_dqC evp_c fun _ => .int _) evs_nil)) (Nat.le_of_ble_eq_true rfl)) (evs_dq (evp_dqL S5.kn (evs_dq (evp_dqC evp_c fun _ => .int _) (evs_dq (evp_dqC evp_c fun _ => .int _) evs_nil)) (Nat.le_of_ble_eq_true rfl)) (evs_dq (evp_dqC evp_c fun _ => .non) (evs_dq (evp_dqC evp_c fun _ => .str _) (evs_dq (evp_dq1 S5.kn) (evs_dq (evp_dqT S5.kn (evs_dq (evp_dqT S5.kn (evs_dq (evp_dqC evp_c fun _ => .str _) (evs_dq (evp_dqC evp_c fun _ => .str _) (evs_dq (evp_dqT S5.kn evs_nil (Nat.le_of_ble_eq_true rfl)) evs_nil))) (Nat.le_of_ble_eq_true rfl)) (evs_dq (evp_dqC evp_c fun _ => .str _) evs_nil)) (Nat.le_of_ble_eq_true rfl)) (evs_dq (evp_dqC evp_c fun _ => .bl _) evs_nil)))))))) (Nat.le_of_ble_eq_true rfl)) rfl (by decide) (by decide) fun d ov H6 md ho S6 x6 => ?_
    replace hw := Dq.mono hide_ex _ _ (Dq.mono (x4.trans (x5.trans x6)) _ _ hw)
    replace hn := Dq.mono hide_ex _ _ (Dq.mono (x5.trans x6) _ _ hn)
    replace ho := Dq.mono hide_ex _ _ ho
    have hx6 := DqAll.mono (x6.trans hide_ex) _ _ hz2
    have hl6 : SqL K H6 l xs ∨ SqT K H6 l xs := by
      rcases hz1 with hz1 | hz1
      · exact .inl (Evl.ex_l (x6.trans hide_ex) hz1)
      · exact .inr (Evl.ex_t (x6.trans hide_ex) hz1)
    refine ⟨_, rfl, _, rfl, _, rfl, _, rfl, wv, nv, ov, l, xs, rfl, hl6, fun v H7 e7 hv => ?_⟩
    have hlen : ∀ {H' : Hp}, Ex H7 H' → ∃ r vs, v = .ref r ∧ H' r = some (.lst vs) ∧ AllP (evAll K c wv nv ov xs) vs H' ∧ vs.length = 19 := fun e => by
      obtain ⟨r, vs, e1, e2, e3⟩ := mono_lstOf mono_evAll v _ _ e hv
      exact ⟨r, vs, e1, e2, e3, e3.len⟩
    have row : ∀ {row : Nat → List V} {E' : XK} {σ : St} {H' : Hp} {k : Nat}, σ[8]? = some (some v) → σ[9]? = some (some (.int (0 + (k : Int)))) → k < 19 → Ex H7 H' →
        EvP (tCall (spRow c row) [] E' (tCons (tOp (rIxL K) (tVar 8) (tVar 9)) tNil)) σ H' (lstV (row k)) := by
      intro row E' σ H' k h8 h9 lt e H1' e1 Q' q'
      obtain ⟨r, vs, rfl, hr1, hr2, _⟩ := hlen (e.trans e1)
      obtain ⟨ax, fs, g1, g2⟩ := atC_get (i := k) atC_all hr2 lt
      rw [Nat.zero_add] at g2
      exact ⟨_, h8, _, h9, r, vs, _, .ref ax, rfl, rfl, SqL.of hr1, by rw [Int.zero_add]; exact atI_nat g1, ax, k, fs, rfl, lt, g2, fun t H2' e2 h2 => q' _ H2' e2 ⟨t, rfl, h2⟩⟩
    obtain ⟨r0, vs0, ev0, hr0, _, hl0⟩ := hlen (Ex.refl H7)
    have hl0' : ((vs0.length : Nat) : Int).toNat = 19 := by
      rw [hl0]
      rfl
    refine ⟨_, rfl, r0, vs0, by rw [ev0], .inl (SqL.of hr0), _, rfl, (by omega), (by omega), for_range (lo := 0) (n := ((vs0.length : Nat) : Int).toNat) (fun k σ H' => ∃ z9 z10 : Option V,
      σ = [some (.ref a), some (.ref p), some (.int gr), some (.int (0 + (i : Int))), some wv, some nv, some (.ref l), some ov, some v, z9, z10] ∧ Ex H7 H') ⟨y9, y10, rfl, Ex.refl H7⟩ ?_ ?_⟩
    · rintro k σ H8 hk ⟨z9, z10, rfl, e8⟩
      rw [hl0'] at hk
      refine if_go (b := false) (ne_rows (bits_ok k hk) (row (row := rowK) rfl rfl hk e8) fun H9 e9 Q' q' => ?_) (fun _ _ z => by cases z) fun H9 e9 _ => ?_
      · obtain ⟨r1, vs1, ev1, hr1, _, hl1⟩ := hlen (e8.trans e9)
        have hl1' : ((vs1.length : Nat) : Int).toNat = 19 := by
          rw [hl1]
          rfl
        refine ⟨_, rfl, r1, vs1, by rw [ev1], .inl (SqL.of hr1), _, rfl, (by omega), (by omega), fun D nD => lc_range (lo := 0) (n := ((vs1.length : Nat) : Int).toNat)
          (fun j H' => H' D = some (.lst ((List.range j).map fun j => V.bl (decide (j = k)))) ∧ Ex H9 H') ⟨upd_same, Ex.new nD⟩ ?_ ?_⟩
        · rintro j H10 hj ⟨hD, e10⟩
          rw [hl1'] at hj
          refine ⟨rfl, ?_⟩
          refine ⟨_, rfl, _, rfl, rfl, _, hD, small1000 (by rw [List.length_map, List.length_range]; omega), ?_, e10.mut nD⟩
          have z : decide (V.int (0 + (j : Int)) = V.int (0 + (k : Int))) = decide (j = k) := by
            rw [dec_int, Bool.eq_iff_iff]
            simp only [beq_iff_eq, decide_eq_true_eq]
            omega
          rw [upd_same, List.range_succ, List.map_append, z]
          rfl
        · rintro H10 ⟨hD, e10⟩
          rw [hl1'] at hD
          exact q' _ H10 e10 ⟨D, rfl, hD⟩
      · have lt : ∀ {σ : St} {H' : Hp}, σ[9]? = some (some (.int (0 + (k : Int)))) → EvP (tOp (rI0 fun i j => .bl (decide (i < j))) (tVar 9) (tC (.int 15))) σ H' (is (.bl (decide (k < 15)))) := fun h9 =>
          evp_ev (Evl.ev_is (Evl.ev_op (Evl.ev_var h9) Evl.ev_c Evl.rv_I0) (by
            congr 1
            rw [decide_eq_decide]
            omega))
        have ge : ∀ {σ : St} {H' : Hp}, σ[9]? = some (some (.int (0 + (k : Int)))) → EvP (tOp (rI0 fun i j => .bl (decide (j ≤ i))) (tVar 9) (tC (.int 15))) σ H' (is (.bl (decide (15 ≤ k)))) := fun h9 =>
          evp_ev (Evl.ev_is (Evl.ev_op (Evl.ev_var h9) Evl.ev_c Evl.rv_I0) (by
            congr 1
            rw [decide_eq_decide]
            omega))
        dsimp only [tNext]
        refine if_go (b := false) (ne_rows (bitsB_ok k hk) (row (row := rowB) rfl rfl hk (e8.trans e9)) ((evp_lstN (Ps := ((bitsB k).map V.bl).map is) (evs_cons (lt rfl) mono_is (evs_cons (lt rfl) mono_is (evs_cons (ge rfl) mono_is (evs_cons (ge rfl) mono_is evs_nil)))) all_is (Nat.le_of_ble_eq_true rfl)).to
          fun u H' _ hu => by
            obtain ⟨t, vs, eu, _, ht, hk⟩ := hu
            exact ⟨t, eu, by rw [ht, allP_is hk]⟩)) (fun _ _ z => by cases z) fun H10 e10 _ => ?_
        exact ⟨_, _, rfl, (e8.trans e9).trans e10⟩
    · rintro σ H8 ⟨z9, z10, rfl, e8⟩
      dsimp only [tNext]
      have a8 := e7.trans e8
      have hl8 : ∀ {H' : Hp}, Ex H6 H' → SqL K H' l xs ∨ SqT K H' l xs := fun e => by
        rcases hl6 with hl6 | hl6
        · exact .inl (Evl.ex_l e hl6)
        · exact .inr (Evl.ex_t e hl6)
      have kept : EvT (fun σ H_1 Q => tCall (spKept K c) [] E0 (tCons (tVar 8) (tCons (tVar 4) (tCons (tVar 5) (tCons (tVar 6) (tCons (tVar 7) tNil))))) σ H_1 fun x H' => ∃ k, TruV K x H' k ∧ Q k H')
          [some (V.ref a), some (V.ref p), some (V.int gr), some (V.int (0 + (i : Int))), some wv, some nv, some (V.ref l), some ov, some v, z9, z10] H8 true := fun H9 e9 Q' q' =>
        ⟨_, rfl, _, rfl, _, rfl, _, rfl, _, rfl, v, wv, nv, ov, l, xs, dw, dn, d, itemsOf dz, rfl, mono_lstOf mono_evAll v _ _ (e8.trans e9) hv, hl8 (a8.trans e9),
          Dq.mono (a8.trans e9) _ _ hw, Dq.mono (a8.trans e9) _ _ hn, Dq.mono (a8.trans e9) _ _ ho, DqAll.mono (a8.trans e9) _ _ hx6, ok_w dw mw, ok_n dn mn, ok_o d md, ok_s dz mz,
          fun H' e' => ⟨true, rfl, q' H' e'⟩⟩
      have len : EvT (tTest (tOp rNe (tCB (Evl.rLenS K) (tCons (tVar 8) tNil)) (tC (V.int 19))))
          [some (V.ref a), some (V.ref p), some (V.int gr), some (V.int (0 + (i : Int))), some wv, some nv, some (V.ref l), some ov, some v, z9, z10] H8 false :=
        Evl.et_test (Evl.ev_is (Evl.ev_op (Evl.ev_len (Evl.ev_var (v := .ref r0) (by rw [ev0]; rfl)) (SqL.of (e8 _ _ hr0))) Evl.ev_c (Evl.rv_ne rfl)) (by rw [hl0]; rfl))
      refine if_go (b := false) (Evl.et_is (Evl.et_or len fun _ => Evl.et_not kept) rfl) (fun _ _ z => by cases z) fun H9 e9 _ => ?_
      exact ⟨_, _, _, _, _, _, _, _, rfl, (S6.ex (a8.trans e9))⟩
  · rintro σ H2 ⟨y3, y4, y5, y6, y7, y8, y9, y10, rfl, S2⟩
    exact q H2
end
end L2.Vf.K00
namespace L2.Vf.K00
open PySem PySem.Spec PyProof.Rows
open Evl (Ex Ev EvT EvL EvA)
/-- an own class ahead of tl, made by newId, as it is written out -/
def xclB (K : PySem.W.Frag) (C : Addr) (tl : List Value) (newId : String) : Bool :=
  match K.lookup C with
  | some ob => (match ob.cls, ob.data, ob.slots.toList with
      | .type t, .cls cd, [_, _, _, _, some (.builtin n), _] => t == "type" && n == newId && cd.hasDict && !cd.hasDel && (match cd.mro with
          | .ref c :: bm => c == C && VfX.refsT tl bm
          | _ => false)
      | _, _, _ => false)
  | none => false
theorem xcl_cls {K : PySem.W.Frag} {C : Addr} {tl : List Value} {newId : String} (q : xclB K C tl newId = true) :
    ∃ nm q N bs bm sn sub ab col dd k0 k1 k2 k3 k5, K.lookup C = some (excClassObj nm q C N bs bm true sn sub ab col dd k0 k1 k2 k3 k5 newId) ∧ VfX.refsT tl bm = true := by
  unfold xclB at q
  split at q
  · rename_i ob ho
    obtain ⟨oc, dd, da, sl⟩ := ob
    dsimp only at q
    split at q
    · rename_i t cd k0 k1 k2 k3 n k5 h3
      simp only [Bool.and_eq_true, beq_iff_eq, Bool.not_eq_true'] at q
      obtain ⟨⟨⟨⟨rfl, rfl⟩, hd⟩, hdel⟩, hm⟩ := q
      split at hm
      · rename_i c bm hmro
        simp only [Bool.and_eq_true, beq_iff_eq] at hm
        obtain ⟨rfl, hr⟩ := hm
        obtain ⟨nm, bs, mro, ns, qn, hdct, sn, sub, ab, col, del⟩ := cd
        dsimp only at hd hdel hmro
        subst hd hdel hmro
        have hsl : sl = #[k0, k1, k2, k3, some (.builtin n), k5] := by
          obtain ⟨l⟩ := sl
          simp only at h3
          rw [h3]
        subst hsl
        exact ⟨nm, qn, ns, bs, bm, sn, sub, ab, col, dd, k0, k1, k2, k3, k5, ho, hr⟩
      · cases hm
    · cases q
  · cases q
def askB (K : PySem.W.Frag) (C : Addr) : Bool := (PySem.W.clsIn K C).isSome && PySem.W.hasDictIn K C && decide (PySem.W.findIn K (.ref C) "__getattribute__" = some (some (.builtin "BaseException.__getattribute__"))) &&
  decide (PySem.W.findIn K (.ref C) "__getattr__" = some none) && decide (PySem.W.subIn K (.ref C) (.type "BaseException") = some true) && decide (PySem.W.findIn K (.ref C) "__class__" = some (some (.builtin "object.__class__"))) &&
  decide (PySem.W.specialIn K (.builtin "object.__class__") "__get__" = some (some (.builtin "getset_descriptor.__get__"))) && decide (PySem.W.takesIn K (.builtin "object.__class__") = some true) && decide (PySem.W.mroIn K C (.type "object") = some true)
theorem ask_of {K : PySem.W.Frag} {C : Addr} (h : askB K C = true) : Xask K C := by
  unfold askB at h
  simp only [Bool.and_eq_true, decide_eq_true_eq] at h
  obtain ⟨⟨⟨⟨⟨⟨⟨⟨h1, h2⟩, h3⟩, h4⟩, h5⟩, h6⟩, h7⟩, h8⟩, h9⟩ := h
  exact ⟨h1, h2, h3, h4, h5, h6, h7, h8, h9⟩
def at_ (cs : List Addr) (k : Nat) : Addr := cs.getD k 0
def oneB (K : PySem.W.Frag) (cs : List Addr) (ca cn : Addr) (k : Nat) : Bool :=
  askB K (at_ cs k) && ((List.range 19).all fun j => PySem.W.kitOne K (.ref (at_ cs k)) (.ref (at_ cs j)) == some (decide (j = k))) &&
  PySem.W.kitOne K (.ref (at_ cs k)) (.ref ca) == some (decide (k < 15)) && PySem.W.kitOne K (.ref (at_ cs k)) (.type "ValueError") == some (decide (k < 15)) &&
  PySem.W.kitOne K (.ref (at_ cs k)) (.ref cn) == some (decide (15 ≤ k)) && PySem.W.kitOne K (.ref (at_ cs k)) (.type "LookupError") == some (decide (15 ≤ k))
def clsB (K : PySem.W.Frag) (cs : List Addr) (ca cn : Addr) : Bool := (List.range 19).all (oneB K cs ca cn)
theorem cls_of {K : PySem.W.Frag} {cs : List Addr} {ca cn : Addr} (h : clsB K cs ca cn = true) : Cls K (at_ cs) ca cn := by
  have z : ∀ k, k < 19 → oneB K cs ca cn k = true := fun k hk => List.all_eq_true.mp h k (List.mem_range.mpr hk)
  have y : ∀ k, k < 19 → askB K (at_ cs k) = true ∧ (∀ j, j < 19 → PySem.W.kitOne K (.ref (at_ cs k)) (.ref (at_ cs j)) = some (decide (j = k))) ∧
      PySem.W.kitOne K (.ref (at_ cs k)) (.ref ca) = some (decide (k < 15)) ∧ PySem.W.kitOne K (.ref (at_ cs k)) (.type "ValueError") = some (decide (k < 15)) ∧
      PySem.W.kitOne K (.ref (at_ cs k)) (.ref cn) = some (decide (15 ≤ k)) ∧ PySem.W.kitOne K (.ref (at_ cs k)) (.type "LookupError") = some (decide (15 ≤ k)) := fun k hk => by
    have e := z k hk
    unfold oneB at e
    simp only [Bool.and_eq_true, beq_iff_eq, List.all_eq_true, List.mem_range] at e
    obtain ⟨⟨⟨⟨⟨h1, h2⟩, h3⟩, h4⟩, h5⟩, h6⟩ := e
    exact ⟨h1, h2, h3, h4, h5, h6⟩
  exact ⟨fun k hk => ask_of (y k hk).1, fun k j hk hj => (y k hk).2.1 j hj, fun k hk => (y k hk).2.2.1, fun k hk => (y k hk).2.2.2.1, fun k hk => (y k hk).2.2.2.2.1, fun k hk => (y k hk).2.2.2.2.2⟩
def emptyB (K : PySem.W.Frag) (C : Addr) : Bool := PySem.W.excIn K C veL "ValueError.__new__" && PySem.W.keepIn K (.ref C)
def initB (K : PySem.W.Frag) (C : Addr) (tl : List Value) (newId : String) (fld : Str) (f : Addr) : Bool := xclB K C tl newId && decide (PySem.W.findIn K (.ref C) "__setattr__" = some (some (.builtin "object.__setattr__"))) &&
  PySem.W.keepIn K (.ref C) && decide (PySem.W.findIn K (.ref C) fld = some none) && decide (PySem.W.typeIn K (.ref f) = some (.type "function"))
theorem init_of {K : PySem.W.Frag} {C f : Addr} {tl : List Value} {newId : String} {fld : Str} (h : initB K C tl newId fld f = true) :
    Xcl K C tl newId ∧ PySem.W.findIn K (.ref C) fld = some none ∧ PySem.W.typeIn K (.ref f) = some (.type "function") := by
  unfold initB at h
  simp only [Bool.and_eq_true, decide_eq_true_eq] at h
  obtain ⟨⟨⟨⟨h1, h2⟩, h3⟩, h4⟩, h5⟩ := h
  exact ⟨⟨xcl_cls h1, h2, h3⟩, h4, h5⟩
theorem empty_of {K : PySem.W.Frag} {C : Addr} (h : emptyB K C = true) : PySem.W.excIn K C veL "ValueError.__new__" = true ∧ PySem.W.keepIn K (.ref C) = true := Bool.and_eq_true_iff.mp h
theorem all_mk {P : Program} {w : World} {K : PySem.W.Frag} {h : Heap} {mg : Str → Option Value} {fa ca cn C0 C1 C2 C3 C4 C5 C6 C7 C8 C9 C10 C11 C12 C13 C14 C15 C16 C17 C18 f6 f7 f8 f9 f10 f11 f12 f13 f14 f15 f16 f17 f18 f_source f_pick f_kinds f_bases f_every f_kept f_law : Addr} (X : K.In h) (G : h.Ns mainGlobals mg) (hfa : mg "law" = some (.ref fa))
    {od6 an6 : Option Addr} {sl6 : Array (Option Value)} {oc6 kV6 dc6 pm6 cd6 ct6 : Value}
    {od7 an7 : Option Addr} {sl7 : Array (Option Value)} {oc7 kV7 dc7 pm7 cd7 ct7 : Value}
    {od8 an8 : Option Addr} {sl8 : Array (Option Value)} {oc8 kV8 dc8 pm8 cd8 ct8 : Value}
    {od9 an9 : Option Addr} {sl9 : Array (Option Value)} {oc9 kV9 dc9 pm9 cd9 ct9 : Value}
    {od10 an10 : Option Addr} {sl10 : Array (Option Value)} {oc10 kV10 dc10 pm10 cd10 ct10 : Value}
    {od11 an11 : Option Addr} {sl11 : Array (Option Value)} {oc11 kV11 dc11 pm11 cd11 ct11 : Value}
    {od12 an12 : Option Addr} {sl12 : Array (Option Value)} {oc12 kV12 dc12 pm12 cd12 ct12 : Value}
    {od13 an13 : Option Addr} {sl13 : Array (Option Value)} {oc13 kV13 dc13 pm13 cd13 ct13 : Value}
    {od14 an14 : Option Addr} {sl14 : Array (Option Value)} {oc14 kV14 dc14 pm14 cd14 ct14 : Value}
    {od15 an15 : Option Addr} {sl15 : Array (Option Value)} {oc15 kV15 dc15 pm15 cd15 ct15 : Value}
    {od16 an16 : Option Addr} {sl16 : Array (Option Value)} {oc16 kV16 dc16 pm16 cd16 ct16 : Value}
    {od17 an17 : Option Addr} {sl17 : Array (Option Value)} {oc17 kV17 dc17 pm17 cd17 ct17 : Value}
    {od18 an18 : Option Addr} {sl18 : Array (Option Value)} {oc18 kV18 dc18 pm18 cd18 ct18 : Value}
    {od_source an_source : Option Addr} {sl_source : Array (Option Value)} {oc_source kV_source dc_source pm_source cd_source ct_source : Value}
    {od_pick an_pick : Option Addr} {sl_pick : Array (Option Value)} {oc_pick kV_pick dc_pick pm_pick cd_pick ct_pick : Value}
    {od_kinds an_kinds : Option Addr} {sl_kinds : Array (Option Value)} {oc_kinds kV_kinds dc_kinds pm_kinds cd_kinds ct_kinds : Value}
    {od_bases an_bases : Option Addr} {sl_bases : Array (Option Value)} {oc_bases kV_bases dc_bases pm_bases cd_bases ct_bases : Value}
    {od_every an_every : Option Addr} {sl_every : Array (Option Value)} {oc_every kV_every dc_every pm_every cd_every ct_every : Value}
    {od_kept an_kept : Option Addr} {sl_kept : Array (Option Value)} {oc_kept kV_kept dc_kept pm_kept cd_kept ct_kept : Value}
    {od_law an_law : Option Addr} {sl_law : Array (Option Value)} {oc_law kV_law dc_law pm_law cd_law ct_law : Value}
    (aC0 : PySem.W.nsIn K mainGlobals "BadPaper" = some (some (.ref C0)))
    (aC1 : PySem.W.nsIn K mainGlobals "BadMeaning" = some (some (.ref C1)))
    (aC2 : PySem.W.nsIn K mainGlobals "BadControl" = some (some (.ref C2)))
    (aC3 : PySem.W.nsIn K mainGlobals "BadWords" = some (some (.ref C3)))
    (aC4 : PySem.W.nsIn K mainGlobals "NotNow" = some (some (.ref C4)))
    (aC5 : PySem.W.nsIn K mainGlobals "MixedEditions" = some (some (.ref C5)))
    (aC6 : PySem.W.nsIn K mainGlobals "NotClosable" = some (some (.ref C6)))
    (aC7 : PySem.W.nsIn K mainGlobals "BadTerm" = some (some (.ref C7)))
    (aC8 : PySem.W.nsIn K mainGlobals "BadBook" = some (some (.ref C8)))
    (aC9 : PySem.W.nsIn K mainGlobals "BadEdition" = some (some (.ref C9)))
    (aC10 : PySem.W.nsIn K mainGlobals "BadChange" = some (some (.ref C10)))
    (aC11 : PySem.W.nsIn K mainGlobals "BadText" = some (some (.ref C11)))
    (aC12 : PySem.W.nsIn K mainGlobals "BadSystem" = some (some (.ref C12)))
    (aC13 : PySem.W.nsIn K mainGlobals "NotTurned" = some (some (.ref C13)))
    (aC14 : PySem.W.nsIn K mainGlobals "TooLong" = some (some (.ref C14)))
    (aC15 : PySem.W.nsIn K mainGlobals "UnknownName" = some (some (.ref C15)))
    (aC16 : PySem.W.nsIn K mainGlobals "NotThere" = some (some (.ref C16)))
    (aC17 : PySem.W.nsIn K mainGlobals "NoControl" = some (some (.ref C17)))
    (aC18 : PySem.W.nsIn K mainGlobals "NoActor" = some (some (.ref C18)))
    (aA : PySem.W.nsIn K mainGlobals "ActorsError" = some (some (.ref ca)))
    (aN : PySem.W.nsIn K mainGlobals "NameMissing" = some (some (.ref cn)))
    (gaA : PySem.W.specialIn K (.ref ca) "__getattribute__" = some (some (.builtin "type.__getattribute__")))
    (rdA : PySem.W.readsIn K ca (.type "type") = true)
    (atA : PySem.W.findCls K (.ref ca) (.type "type") "__init__" = some (.val (.builtin "ValueError.__init__")))
    (gaN : PySem.W.specialIn K (.ref cn) "__getattribute__" = some (some (.builtin "type.__getattribute__")))
    (rdN : PySem.W.readsIn K cn (.type "type") = true)
    (atN : PySem.W.findCls K (.ref cn) (.type "type") "__init__" = some (.val (.builtin "LookupError.__init__")))
    (kB : clsB K [C0, C1, C2, C3, C4, C5, C6, C7, C8, C9, C10, C11, C12, C13, C14, C15, C16, C17, C18] ca cn = true)
    (eB0 : emptyB K C0 = true)
    (eB1 : emptyB K C1 = true)
    (eB2 : emptyB K C2 = true)
    (eB3 : emptyB K C3 = true)
    (eB4 : emptyB K C4 = true)
    (eB5 : emptyB K C5 = true)
    (a6 : PySem.W.findIn K (.ref C6) "__init__" = some (some (.ref f6)))
    (iB6 : initB K C6 veL "ValueError.__new__" "role" f6 = true)
    (l6 : K.lookup f6 = some ⟨oc6, od6, .func (PySem.W.fnOf "__init__" "NotClosable.__init__" (defArgs si_NotClosable) (defBody si_NotClosable) (defScope si_NotClosable) .none kV6 dc6 pm6 an6 cd6 ct6), sl6⟩)
    (c6 : PySem.W.codeIn K cd6 "NotClosable.__init__" = true)
    (k6 : PySem.W.keepIn K (.ref f6) = true)
    (a7 : PySem.W.findIn K (.ref C7) "__init__" = some (some (.ref f7)))
    (iB7 : initB K C7 veL "ValueError.__new__" "path" f7 = true)
    (l7 : K.lookup f7 = some ⟨oc7, od7, .func (PySem.W.fnOf "__init__" "BadTerm.__init__" (defArgs si_BadTerm) (defBody si_BadTerm) (defScope si_BadTerm) .none kV7 dc7 pm7 an7 cd7 ct7), sl7⟩)
    (c7 : PySem.W.codeIn K cd7 "BadTerm.__init__" = true)
    (k7 : PySem.W.keepIn K (.ref f7) = true)
    (a8 : PySem.W.findIn K (.ref C8) "__init__" = some (some (.ref f8)))
    (iB8 : initB K C8 veL "ValueError.__new__" "path" f8 = true)
    (l8 : K.lookup f8 = some ⟨oc8, od8, .func (PySem.W.fnOf "__init__" "BadBook.__init__" (defArgs si_BadBook) (defBody si_BadBook) (defScope si_BadBook) .none kV8 dc8 pm8 an8 cd8 ct8), sl8⟩)
    (c8 : PySem.W.codeIn K cd8 "BadBook.__init__" = true)
    (k8 : PySem.W.keepIn K (.ref f8) = true)
    (a9 : PySem.W.findIn K (.ref C9) "__init__" = some (some (.ref f9)))
    (iB9 : initB K C9 veL "ValueError.__new__" "path" f9 = true)
    (l9 : K.lookup f9 = some ⟨oc9, od9, .func (PySem.W.fnOf "__init__" "BadEdition.__init__" (defArgs si_BadEdition) (defBody si_BadEdition) (defScope si_BadEdition) .none kV9 dc9 pm9 an9 cd9 ct9), sl9⟩)
    (c9 : PySem.W.codeIn K cd9 "BadEdition.__init__" = true)
    (k9 : PySem.W.keepIn K (.ref f9) = true)
    (a10 : PySem.W.findIn K (.ref C10) "__init__" = some (some (.ref f10)))
    (iB10 : initB K C10 veL "ValueError.__new__" "path" f10 = true)
    (l10 : K.lookup f10 = some ⟨oc10, od10, .func (PySem.W.fnOf "__init__" "BadChange.__init__" (defArgs si_BadChange) (defBody si_BadChange) (defScope si_BadChange) .none kV10 dc10 pm10 an10 cd10 ct10), sl10⟩)
    (c10 : PySem.W.codeIn K cd10 "BadChange.__init__" = true)
    (k10 : PySem.W.keepIn K (.ref f10) = true)
    (a11 : PySem.W.findIn K (.ref C11) "__init__" = some (some (.ref f11)))
    (iB11 : initB K C11 veL "ValueError.__new__" "place" f11 = true)
    (l11 : K.lookup f11 = some ⟨oc11, od11, .func (PySem.W.fnOf "__init__" "BadText.__init__" (defArgs si_BadText) (defBody si_BadText) (defScope si_BadText) .none kV11 dc11 pm11 an11 cd11 ct11), sl11⟩)
    (c11 : PySem.W.codeIn K cd11 "BadText.__init__" = true)
    (k11 : PySem.W.keepIn K (.ref f11) = true)
    (a12 : PySem.W.findIn K (.ref C12) "__init__" = some (some (.ref f12)))
    (iB12 : initB K C12 veL "ValueError.__new__" "word" f12 = true)
    (l12 : K.lookup f12 = some ⟨oc12, od12, .func (PySem.W.fnOf "__init__" "BadSystem.__init__" (defArgs si_BadSystem) (defBody si_BadSystem) (defScope si_BadSystem) .none kV12 dc12 pm12 an12 cd12 ct12), sl12⟩)
    (c12 : PySem.W.codeIn K cd12 "BadSystem.__init__" = true)
    (k12 : PySem.W.keepIn K (.ref f12) = true)
    (a13 : PySem.W.findIn K (.ref C13) "__init__" = some (some (.ref f13)))
    (iB13 : initB K C13 veL "ValueError.__new__" "name" f13 = true)
    (l13 : K.lookup f13 = some ⟨oc13, od13, .func (PySem.W.fnOf "__init__" "NotTurned.__init__" (defArgs si_NotTurned) (defBody si_NotTurned) (defScope si_NotTurned) .none kV13 dc13 pm13 an13 cd13 ct13), sl13⟩)
    (c13 : PySem.W.codeIn K cd13 "NotTurned.__init__" = true)
    (k13 : PySem.W.keepIn K (.ref f13) = true)
    (a14 : PySem.W.findIn K (.ref C14) "__init__" = some (some (.ref f14)))
    (iB14 : initB K C14 veL "ValueError.__new__" "limit" f14 = true)
    (l14 : K.lookup f14 = some ⟨oc14, od14, .func (PySem.W.fnOf "__init__" "TooLong.__init__" (defArgs si_TooLong) (defBody si_TooLong) (defScope si_TooLong) .none kV14 dc14 pm14 an14 cd14 ct14), sl14⟩)
    (c14 : PySem.W.codeIn K cd14 "TooLong.__init__" = true)
    (k14 : PySem.W.keepIn K (.ref f14) = true)
    (a15 : PySem.W.findIn K (.ref C15) "__init__" = some (some (.ref f15)))
    (iB15 : initB K C15 leL "LookupError.__new__" "name" f15 = true)
    (l15 : K.lookup f15 = some ⟨oc15, od15, .func (PySem.W.fnOf "__init__" "UnknownName.__init__" (defArgs si_UnknownName) (defBody si_UnknownName) (defScope si_UnknownName) .none kV15 dc15 pm15 an15 cd15 ct15), sl15⟩)
    (c15 : PySem.W.codeIn K cd15 "UnknownName.__init__" = true)
    (k15 : PySem.W.keepIn K (.ref f15) = true)
    (a16 : PySem.W.findIn K (.ref C16) "__init__" = some (some (.ref f16)))
    (iB16 : initB K C16 leL "LookupError.__new__" "pair" f16 = true)
    (l16 : K.lookup f16 = some ⟨oc16, od16, .func (PySem.W.fnOf "__init__" "NotThere.__init__" (defArgs si_NotThere) (defBody si_NotThere) (defScope si_NotThere) .none kV16 dc16 pm16 an16 cd16 ct16), sl16⟩)
    (c16 : PySem.W.codeIn K cd16 "NotThere.__init__" = true)
    (k16 : PySem.W.keepIn K (.ref f16) = true)
    (a17 : PySem.W.findIn K (.ref C17) "__init__" = some (some (.ref f17)))
    (iB17 : initB K C17 leL "LookupError.__new__" "control" f17 = true)
    (l17 : K.lookup f17 = some ⟨oc17, od17, .func (PySem.W.fnOf "__init__" "NoControl.__init__" (defArgs si_NoControl) (defBody si_NoControl) (defScope si_NoControl) .none kV17 dc17 pm17 an17 cd17 ct17), sl17⟩)
    (c17 : PySem.W.codeIn K cd17 "NoControl.__init__" = true)
    (k17 : PySem.W.keepIn K (.ref f17) = true)
    (a18 : PySem.W.findIn K (.ref C18) "__init__" = some (some (.ref f18)))
    (iB18 : initB K C18 leL "LookupError.__new__" "address" f18 = true)
    (l18 : K.lookup f18 = some ⟨oc18, od18, .func (PySem.W.fnOf "__init__" "NoActor.__init__" (defArgs si_NoActor) (defBody si_NoActor) (defScope si_NoActor) .none kV18 dc18 pm18 an18 cd18 ct18), sl18⟩)
    (c18 : PySem.W.codeIn K cd18 "NoActor.__init__" = true)
    (k18 : PySem.W.keepIn K (.ref f18) = true)
    (a_source : PySem.W.nsIn K mainGlobals "_law_source" = some (some (.ref f_source)))
    (l_source : K.lookup f_source = some ⟨oc_source, od_source, .func (PySem.W.fnOf "_law_source" "_law_source" (defArgs sSource) (defBody sSource) (defScope sSource) .none kV_source dc_source pm_source an_source cd_source ct_source), sl_source⟩)
    (c_source : PySem.W.codeIn K cd_source "_law_source" = true)
    (k_source : PySem.W.keepIn K (.ref f_source) = true)
    (a_pick : PySem.W.nsIn K mainGlobals "_law_pick" = some (some (.ref f_pick)))
    (l_pick : K.lookup f_pick = some ⟨oc_pick, od_pick, .func (PySem.W.fnOf "_law_pick" "_law_pick" (defArgs sPick) (defBody sPick) (defScope sPick) .none kV_pick dc_pick pm_pick an_pick cd_pick ct_pick), sl_pick⟩)
    (c_pick : PySem.W.codeIn K cd_pick "_law_pick" = true)
    (k_pick : PySem.W.keepIn K (.ref f_pick) = true)
    (a_kinds : PySem.W.nsIn K mainGlobals "_law_kinds" = some (some (.ref f_kinds)))
    (l_kinds : K.lookup f_kinds = some ⟨oc_kinds, od_kinds, .func (PySem.W.fnOf "_law_kinds" "_law_kinds" (defArgs s__law_kinds) (defBody s__law_kinds) (defScope s__law_kinds) .none kV_kinds dc_kinds pm_kinds an_kinds cd_kinds ct_kinds), sl_kinds⟩)
    (c_kinds : PySem.W.codeIn K cd_kinds "_law_kinds" = true)
    (k_kinds : PySem.W.keepIn K (.ref f_kinds) = true)
    (a_bases : PySem.W.nsIn K mainGlobals "_law_bases" = some (some (.ref f_bases)))
    (l_bases : K.lookup f_bases = some ⟨oc_bases, od_bases, .func (PySem.W.fnOf "_law_bases" "_law_bases" (defArgs s__law_bases) (defBody s__law_bases) (defScope s__law_bases) .none kV_bases dc_bases pm_bases an_bases cd_bases ct_bases), sl_bases⟩)
    (c_bases : PySem.W.codeIn K cd_bases "_law_bases" = true)
    (k_bases : PySem.W.keepIn K (.ref f_bases) = true)
    (a_every : PySem.W.nsIn K mainGlobals "_law_every" = some (some (.ref f_every)))
    (l_every : K.lookup f_every = some ⟨oc_every, od_every, .func (PySem.W.fnOf "_law_every" "_law_every" (defArgs s__law_every) (defBody s__law_every) (defScope s__law_every) .none kV_every dc_every pm_every an_every cd_every ct_every), sl_every⟩)
    (c_every : PySem.W.codeIn K cd_every "_law_every" = true)
    (k_every : PySem.W.keepIn K (.ref f_every) = true)
    (a_kept : PySem.W.nsIn K mainGlobals "_law_kept" = some (some (.ref f_kept)))
    (l_kept : K.lookup f_kept = some ⟨oc_kept, od_kept, .func (PySem.W.fnOf "_law_kept" "_law_kept" (defArgs s__law_kept) (defBody s__law_kept) (defScope s__law_kept) .none kV_kept dc_kept pm_kept an_kept cd_kept ct_kept), sl_kept⟩)
    (c_kept : PySem.W.codeIn K cd_kept "_law_kept" = true)
    (k_kept : PySem.W.keepIn K (.ref f_kept) = true)
    (a_law : PySem.W.nsIn K mainGlobals "law" = some (some (.ref f_law)))
    (l_law : K.lookup f_law = some ⟨oc_law, od_law, .func (PySem.W.fnOf "law" "law" (defArgs s_law) (defBody s_law) (defScope s_law) .none kV_law dc_law pm_law an_law cd_law ct_law), sl_law⟩)
    (c_law : PySem.W.codeIn K cd_law "law" = true)
    (k_law : PySem.W.keepIn K (.ref f_law) = true)
    (z_isinstance : PySem.W.nsIn K mainGlobals "isinstance" = some none)
    (z_ValueError : PySem.W.nsIn K mainGlobals "ValueError" = some none)
    (z_LookupError : PySem.W.nsIn K mainGlobals "LookupError" = some none)
    (z_int : PySem.W.nsIn K mainGlobals "int" = some none)
    (z_abs : PySem.W.nsIn K mainGlobals "abs" = some none)
    (z_range : PySem.W.nsIn K mainGlobals "range" = some none)
    (z_len : PySem.W.nsIn K mainGlobals "len" = some none)
    (z_tuple : PySem.W.nsIn K mainGlobals "tuple" = some none)
    (z_repr : PySem.W.nsIn K mainGlobals "repr" = some none)
    : ∃ fd : FuncData, (∀ (s : Shared) (v : Value), BindsTo s fd ⟨[v], []⟩ [("_law_script", v)]) ∧ ∀ base : Heap, K.In base → base.Ns mainGlobals mg → FnG P w K mg base CX0 4 fa fd ["_law_script"] (spLaw K) := by
  have e := hfa.symm.trans (PySem.W.mg_of X G a_law)
  cases e
  have Z := cls_of kB
  have N : Nms mg (at_ [C0, C1, C2, C3, C4, C5, C6, C7, C8, C9, C10, C11, C12, C13, C14, C15, C16, C17, C18]) ca cn := ⟨PySem.W.mg_of X G aC0, PySem.W.mg_of X G aC1, PySem.W.mg_of X G aC2, PySem.W.mg_of X G aC3, PySem.W.mg_of X G aC4, PySem.W.mg_of X G aC5, PySem.W.mg_of X G aC6, PySem.W.mg_of X G aC7, PySem.W.mg_of X G aC8, PySem.W.mg_of X G aC9, PySem.W.mg_of X G aC10, PySem.W.mg_of X G aC11, PySem.W.mg_of X G aC12, PySem.W.mg_of X G aC13, PySem.W.mg_of X G aC14, PySem.W.mg_of X G aC15, PySem.W.mg_of X G aC16, PySem.W.mg_of X G aC17, PySem.W.mg_of X G aC18, PySem.W.mg_of X G aA, PySem.W.mg_of X G aN⟩
  have MA : BaseI K ca "ValueError.__init__" := ⟨gaA, rdA, atA⟩
  have MN : BaseI K cn "LookupError.__init__" := ⟨gaN, rdN, atN⟩
  have n_isinstance := PySem.W.mg_none_of X G z_isinstance
  have n_ValueError := PySem.W.mg_none_of X G z_ValueError
  have n_LookupError := PySem.W.mg_none_of X G z_LookupError
  have n_int := PySem.W.mg_none_of X G z_int
  have n_abs := PySem.W.mg_none_of X G z_abs
  have n_range := PySem.W.mg_none_of X G z_range
  have n_len := PySem.W.mg_none_of X G z_len
  have n_tuple := PySem.W.mg_none_of X G z_tuple
  have n_repr := PySem.W.mg_none_of X G z_repr
  obtain ⟨W6, no6, t6⟩ := init_of iB6
  have F6 := fun_mk (st := si_NotClosable) l6 c6 k6
  have b6 := F6.binds (ps := ["self", "role"]) fun _ _ _ _ _ _ us hl => match us, hl with | [_, _], _ => rfl
  obtain ⟨W7, no7, t7⟩ := init_of iB7
  have F7 := fun_mk (st := si_BadTerm) l7 c7 k7
  have b7 := F7.binds (ps := ["self", "path"]) fun _ _ _ _ _ _ us hl => match us, hl with | [_, _], _ => rfl
  obtain ⟨W8, no8, t8⟩ := init_of iB8
  have F8 := fun_mk (st := si_BadBook) l8 c8 k8
  have b8 := F8.binds (ps := ["self", "path"]) fun _ _ _ _ _ _ us hl => match us, hl with | [_, _], _ => rfl
  obtain ⟨W9, no9, t9⟩ := init_of iB9
  have F9 := fun_mk (st := si_BadEdition) l9 c9 k9
  have b9 := F9.binds (ps := ["self", "path"]) fun _ _ _ _ _ _ us hl => match us, hl with | [_, _], _ => rfl
  obtain ⟨W10, no10, t10⟩ := init_of iB10
  have F10 := fun_mk (st := si_BadChange) l10 c10 k10
  have b10 := F10.binds (ps := ["self", "path"]) fun _ _ _ _ _ _ us hl => match us, hl with | [_, _], _ => rfl
  obtain ⟨W11, no11, t11⟩ := init_of iB11
  have F11 := fun_mk (st := si_BadText) l11 c11 k11
  have b11 := F11.binds (ps := ["self", "place"]) fun _ _ _ _ _ _ us hl => match us, hl with | [_, _], _ => rfl
  obtain ⟨W12, no12, t12⟩ := init_of iB12
  have F12 := fun_mk (st := si_BadSystem) l12 c12 k12
  have b12 := F12.binds (ps := ["self", "word"]) fun _ _ _ _ _ _ us hl => match us, hl with | [_, _], _ => rfl
  obtain ⟨W13, no13, t13⟩ := init_of iB13
  have F13 := fun_mk (st := si_NotTurned) l13 c13 k13
  have b13 := F13.binds (ps := ["self", "name"]) fun _ _ _ _ _ _ us hl => match us, hl with | [_, _], _ => rfl
  obtain ⟨W14, no14, t14⟩ := init_of iB14
  have F14 := fun_mk (st := si_TooLong) l14 c14 k14
  have b14 := F14.binds (ps := ["self", "limit"]) fun _ _ _ _ _ _ us hl => match us, hl with | [_, _], _ => rfl
  obtain ⟨W15, no15, t15⟩ := init_of iB15
  have F15 := fun_mk (st := si_UnknownName) l15 c15 k15
  have b15 := F15.binds (ps := ["self", "name"]) fun _ _ _ _ _ _ us hl => match us, hl with | [_, _], _ => rfl
  obtain ⟨W16, no16, t16⟩ := init_of iB16
  have F16 := fun_mk (st := si_NotThere) l16 c16 k16
  have b16 := F16.binds (ps := ["self", "pair"]) fun _ _ _ _ _ _ us hl => match us, hl with | [_, _], _ => rfl
  obtain ⟨W17, no17, t17⟩ := init_of iB17
  have F17 := fun_mk (st := si_NoControl) l17 c17 k17
  have b17 := F17.binds (ps := ["self", "control"]) fun _ _ _ _ _ _ us hl => match us, hl with | [_, _], _ => rfl
  obtain ⟨W18, no18, t18⟩ := init_of iB18
  have F18 := fun_mk (st := si_NoActor) l18 c18 k18
  have b18 := F18.binds (ps := ["self", "address"]) fun _ _ _ _ _ _ us hl => match us, hl with | [_, _], _ => rfl
  have F_source := fun_mk (st := sSource) l_source c_source k_source
  have b_source := F_source.binds (ps := ["_law_script"]) fun _ _ _ _ _ _ us hl => match us, hl with | [_], _ => rfl
  have F_pick := fun_mk (st := sPick) l_pick c_pick k_pick
  have b_pick := F_pick.binds (ps := ["_law_source_here", "_law_many"]) fun _ _ _ _ _ _ us hl => match us, hl with | [_, _], _ => rfl
  have F_kinds := fun_mk (st := s__law_kinds) l_kinds c_kinds k_kinds
  have b_kinds := F_kinds.binds (ps := ["_law_e"]) fun _ _ _ _ _ _ us hl => match us, hl with | [_], _ => rfl
  have F_bases := fun_mk (st := s__law_bases) l_bases c_bases k_bases
  have b_bases := F_bases.binds (ps := ["_law_e"]) fun _ _ _ _ _ _ us hl => match us, hl with | [_], _ => rfl
  have F_every := fun_mk (st := s__law_every) l_every c_every k_every
  have b_every := F_every.binds (ps := ["_law_word", "_law_number", "_law_some", "_law_other"]) fun _ _ _ _ _ _ us hl => match us, hl with | [_, _, _, _], _ => rfl
  have F_kept := fun_mk (st := s__law_kept) l_kept c_kept k_kept
  have b_kept := F_kept.binds (ps := ["_law_every_here", "_law_word", "_law_number", "_law_some", "_law_other"]) fun _ _ _ _ _ _ us hl => match us, hl with | [_, _, _, _, _], _ => rfl
  have F_law := fun_mk (st := s_law) l_law c_law k_law
  have b_law := F_law.binds (ps := ["_law_script"]) fun _ _ _ _ _ _ us hl => match us, hl with | [_], _ => rfl
  refine ⟨PySem.W.fnOf "law" "law" (defArgs s_law) (defBody s_law) (defScope s_law) .none kV_law dc_law pm_law an_law cd_law ct_law, fun s v => .of_eq rfl, fun base _ _ => ?_⟩
  have J : Inis P w K mg base (at_ [C0, C1, C2, C3, C4, C5, C6, C7, C8, C9, C10, C11, C12, C13, C14, C15, C16, C17, C18]) := ⟨(empty_of eB0).1, (empty_of eB0).2, (empty_of eB1).1, (empty_of eB1).2, (empty_of eB2).1, (empty_of eB2).2, (empty_of eB3).1, (empty_of eB3).2, (empty_of eB4).1, (empty_of eB4).2, (empty_of eB5).1, (empty_of eB5).2, ⟨f6, _, _, W6, a6, t6, ok_NotClosable F6 MA N.m_A W6 no6, b6⟩,
    ⟨f7, _, _, W7, a7, t7, ok_BadTerm F7 MA N.m_A W7 no7, b7⟩,
    ⟨f8, _, _, W8, a8, t8, ok_BadBook F8 MA N.m_A W8 no8 n_tuple, b8⟩,
    ⟨f9, _, _, W9, a9, t9, ok_BadEdition F9 MA N.m_A W9 no9 n_tuple, b9⟩,
    ⟨f10, _, _, W10, a10, t10, ok_BadChange F10 MA N.m_A W10 no10 n_tuple, b10⟩,
    ⟨f11, _, _, W11, a11, t11, ok_BadText F11 MA N.m_A W11 no11, b11⟩,
    ⟨f12, _, _, W12, a12, t12, ok_BadSystem F12 MA N.m_A W12 no12, b12⟩,
    ⟨f13, _, _, W13, a13, t13, ok_NotTurned F13 MA N.m_A W13 no13, b13⟩,
    ⟨f14, _, _, W14, a14, t14, ok_TooLong F14 MA N.m_A W14 no14, b14⟩,
    ⟨f15, _, _, W15, a15, t15, ok_UnknownName F15 MN N.m_N W15 no15, b15⟩,
    ⟨f16, _, _, W16, a16, t16, ok_NotThere F16 MN N.m_N W16 no16, b16⟩,
    ⟨f17, _, _, W17, a17, t17, ok_NoControl F17 MN N.m_N W17 no17, b17⟩,
    ⟨f18, _, _, W18, a18, t18, ok_NoActor F18 MN N.m_N W18 no18, b18⟩⟩
  have Fl : Flds K (at_ [C0, C1, C2, C3, C4, C5, C6, C7, C8, C9, C10, C11, C12, C13, C14, C15, C16, C17, C18]) := ⟨no6, no7, no8, no9, no10, no11, no12, no13, no14, no15, no16, no17, no18⟩
  have O : Own P w K mg base (at_ [C0, C1, C2, C3, C4, C5, C6, C7, C8, C9, C10, C11, C12, C13, C14, C15, C16, C17, C18]) := ⟨⟨f_source, _, ok_source F_source n_int n_abs n_range n_len, PySem.W.mg_of X G a_source, k_source, b_source⟩,
    ⟨f_pick, _, ok_pick F_pick n_int n_len, PySem.W.mg_of X G a_pick, k_pick, b_pick⟩,
    ⟨f_kinds, _, ok_kinds F_kinds n_isinstance N Z, PySem.W.mg_of X G a_kinds, k_kinds, b_kinds⟩,
    ⟨f_bases, _, ok_bases F_bases n_isinstance n_ValueError n_LookupError N Z, PySem.W.mg_of X G a_bases, k_bases, b_bases⟩,
    ⟨f_every, _, ok_every F_every N J, PySem.W.mg_of X G a_every, k_every, b_every⟩,
    ⟨f_kept, _, ok_kept F_kept n_repr n_tuple Z Fl, PySem.W.mg_of X G a_kept, k_kept, b_kept⟩⟩
  exact ok_law F_law n_int n_range n_len O
theorem walk {l : PySem.W.OpenLaw} {q : Program} {loose : List Str} {XP : (Str → Option Value) → Heap → Prop} {YP : World → Heap → Prop} {d : DefRec} {K : Params → PySem.W.Frag}
    (hn : l.most = some 63) (hdf : d.params.defaults = []) (hY : ∀ (w : World) (h : Heap), YP w h → (K w.params).In h)
    (F : ∀ (w : World) (mg : Str → Option Value) (fa : Addr) (h : Heap), (K w.params).In h → h.Ns mainGlobals mg → mg d.name = some (.ref fa) →
      ∃ fd : FuncData, (∀ (s : Shared) (u : Value), BindsTo s fd ⟨[u], []⟩ [("_law_script", u)]) ∧
        ∀ base : Heap, (K w.params).In base → base.Ns mainGlobals mg → FnG l.prog w (K w.params) mg base CX0 4 fa fd ["_law_script"] (spLaw (K w.params))) :
    PySem.W.WalkO q loose XP YP l.row.toRowW d [] (fun f vs => PySem.call f vs) :=
  walk_ofG (n := 63) (k := 4) (x := "_law_script") (sp := fun w => spLaw (K w.params)) hn (by decide) hdf ⟨rfl, by decide, by decide⟩ hY F fun w H a ns hl hS => ⟨a, ns, rfl, hS, hl, fun _ => rfl⟩
end L2.Vf.K00
open PySem PySem.W PyProof.Rows
set_option maxRecDepth 100000 in
set_option maxHeartbeats 0 in
theorem PySem.Challenge.cw_movedactors_k00_errors_holds : PySem.Challenge.rw_movedactors_k00_errors.Holds := by
  w_on; o_law; k_head; (case hw => w_witness2)
  k_fill
  refine L2.Vf.K00.walk (l := PySem.Challenge.rw_movedactors_k00_errors) rfl rfl (fun w h Y => PySem.W.kIn_of Y) ?F
  case F =>
    intro w mg fa h KX G hmg
    refine' L2.Vf.K00.all_mk KX G hmg ?aC0 ?aC1 ?aC2 ?aC3 ?aC4 ?aC5 ?aC6 ?aC7 ?aC8 ?aC9 ?aC10 ?aC11 ?aC12 ?aC13 ?aC14 ?aC15 ?aC16 ?aC17 ?aC18 ?aA ?aN ?gaA ?rdA ?atA ?gaN ?rdN ?atN ?kB ?eB0 ?eB1 ?eB2 ?eB3 ?eB4 ?eB5 ?a6 ?iB6 ?l6 ?c6 ?k6 ?a7 ?iB7 ?l7 ?c7 ?k7 ?a8 ?iB8 ?l8 ?c8 ?k8 ?a9 ?iB9 ?l9 ?c9 ?k9 ?a10 ?iB10 ?l10 ?c10 ?k10 ?a11 ?iB11 ?l11 ?c11 ?k11 ?a12 ?iB12 ?l12 ?c12 ?k12 ?a13 ?iB13 ?l13 ?c13 ?k13 ?a14 ?iB14 ?l14 ?c14 ?k14 ?a15 ?iB15 ?l15 ?c15 ?k15 ?a16 ?iB16 ?l16 ?c16 ?k16 ?a17 ?iB17 ?l17 ?c17 ?k17 ?a18 ?iB18 ?l18 ?c18 ?k18 ?a_source ?l_source ?c_source ?k_source ?a_pick ?l_pick ?c_pick ?k_pick ?a_kinds ?l_kinds ?c_kinds ?k_kinds ?a_bases ?l_bases ?c_bases ?k_bases ?a_every ?l_every ?c_every ?k_every ?a_kept ?l_kept ?c_kept ?k_kept ?a_law ?l_law ?c_law ?k_law ?z_isinstance ?z_ValueError ?z_LookupError ?z_int ?z_abs ?z_range ?z_len ?z_tuple ?z_repr
    (case aC0 => k_is)
    (case aC1 => k_is)
    (case aC2 => k_is)
    (case aC3 => k_is)
    (case aC4 => k_is)
    (case aC5 => k_is)
    (case aC6 => k_is)
    (case aC7 => k_is)
    (case aC8 => k_is)
    (case aC9 => k_is)
    (case aC10 => k_is)
    (case aC11 => k_is)
    (case aC12 => k_is)
    (case aC13 => k_is)
    (case aC14 => k_is)
    (case aC15 => k_is)
    (case aC16 => k_is)
    (case aC17 => k_is)
    (case aC18 => k_is)
    (case aA => k_is)
    (case aN => k_is)
    (case gaA => k_is)
    (case rdA => k_is)
    (case atA => k_is)
    (case gaN => k_is)
    (case rdN => k_is)
    (case atN => k_is)
    (case kB => kernel_rfl)
    (case eB0 => kernel_rfl)
    (case eB1 => kernel_rfl)
    (case eB2 => kernel_rfl)
    (case eB3 => kernel_rfl)
    (case eB4 => kernel_rfl)
    (case eB5 => kernel_rfl)
    (case a6 => k_is)
    (case iB6 => kernel_rfl)
    (case l6 => k_is)
    (case c6 => k_is)
    (case k6 => k_is)
    (case a7 => k_is)
    (case iB7 => kernel_rfl)
    (case l7 => k_is)
    (case c7 => k_is)
    (case k7 => k_is)
    (case a8 => k_is)
    (case iB8 => kernel_rfl)
    (case l8 => k_is)
    (case c8 => k_is)
    (case k8 => k_is)
    (case a9 => k_is)
    (case iB9 => kernel_rfl)
    (case l9 => k_is)
    (case c9 => k_is)
    (case k9 => k_is)
    (case a10 => k_is)
    (case iB10 => kernel_rfl)
    (case l10 => k_is)
    (case c10 => k_is)
    (case k10 => k_is)
    (case a11 => k_is)
    (case iB11 => kernel_rfl)
    (case l11 => k_is)
    (case c11 => k_is)
    (case k11 => k_is)
    (case a12 => k_is)
    (case iB12 => kernel_rfl)
    (case l12 => k_is)
    (case c12 => k_is)
    (case k12 => k_is)
    (case a13 => k_is)
    (case iB13 => kernel_rfl)
    (case l13 => k_is)
    (case c13 => k_is)
    (case k13 => k_is)
    (case a14 => k_is)
    (case iB14 => kernel_rfl)
    (case l14 => k_is)
    (case c14 => k_is)
    (case k14 => k_is)
    (case a15 => k_is)
    (case iB15 => kernel_rfl)
    (case l15 => k_is)
    (case c15 => k_is)
    (case k15 => k_is)
    (case a16 => k_is)
    (case iB16 => kernel_rfl)
    (case l16 => k_is)
    (case c16 => k_is)
    (case k16 => k_is)
    (case a17 => k_is)
    (case iB17 => kernel_rfl)
    (case l17 => k_is)
    (case c17 => k_is)
    (case k17 => k_is)
    (case a18 => k_is)
    (case iB18 => kernel_rfl)
    (case l18 => k_is)
    (case c18 => k_is)
    (case k18 => k_is)
    (case a_source => k_is)
    (case l_source => k_is)
    (case c_source => k_is)
    (case k_source => k_is)
    (case a_pick => k_is)
    (case l_pick => k_is)
    (case c_pick => k_is)
    (case k_pick => k_is)
    (case a_kinds => k_is)
    (case l_kinds => k_is)
    (case c_kinds => k_is)
    (case k_kinds => k_is)
    (case a_bases => k_is)
    (case l_bases => k_is)
    (case c_bases => k_is)
    (case k_bases => k_is)
    (case a_every => k_is)
    (case l_every => k_is)
    (case c_every => k_is)
    (case k_every => k_is)
    (case a_kept => k_is)
    (case l_kept => k_is)
    (case c_kept => k_is)
    (case k_kept => k_is)
    (case a_law => k_is)
    (case l_law => k_is)
    (case c_law => k_is)
    (case k_law => k_is)
    (case z_isinstance => k_is)
    (case z_ValueError => k_is)
    (case z_LookupError => k_is)
    (case z_int => k_is)
    (case z_abs => k_is)
    (case z_range => k_is)
    (case z_len => k_is)
    (case z_tuple => k_is)
    (case z_repr => k_is)
