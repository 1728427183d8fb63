import PyProof.Rows.All
import Wide.All
import OpenK.AllK
import Wide.FinOn
import HandS.ForMost
import HandS.Exc
import HandS.ExcOwn
import HandS.ExcInit
import HandS.ExcValue
import HandS.IsInst
import HandS.ExcIs
import HandS.ExcField
import KE.KExcIs
import KE.KExcInit
import HandS.Evl
import HandS.Dict
import PyProof.ReprRoads
import KE.KeyNested
import PyProof.DictDisplay
import HandS.Iter
import HandS.More
import HandS.Style
import HandS.Deep
import HandS.Lambda
import HandS.Nested
import PyProof.ReprReads
import PyProof.StrLawsRepr
import KE.KDictCopyH
import HandS.DictTup
import HandS.ListItems
import HandS.DictComp
import HandS.Walk
import KE.KDictPairs
import HandS.Codes
import HandS.CallSlots
import HandS.WordsExc
import HandS.RaiseFrom
import HandS.SuiteRaise
import HandS.ExcInitHot
import HandS.ExcCtx
import KE.KAsSuite
import PyProof.EnumMake
import KE.GoesMore
import HandS.TupAny
import PyProof.EqAt
import PyProof.NeKinds
import PyProof.StrLawsIn
import HandS.TupMul
import HandS.DeepEq
import PyProof.CallFns
import HandS.OwnEq
import PyProof.Rows.PlainNe
import PyProof.IsRules
import HandS.EndTab
import KE.KNest
import PySem.Challenge.RW_movedactors_k01_books_judged
set_option Elab.async false
set_option linter.all false
set_option maxRecDepth 100000
set_option maxHeartbeats 4000000
/-! Exceptions as values: made by a call of their class, told their fields, asked for their kind. -/
namespace PySem
namespace VfX
open PySem.W PySem.Calls PyProof.Rows
open Builtin Builtin.ObjectAttr

/-- own classes ahead of a built-in class's line -/
def refsT (tl : List Value) : List Value → Bool
  | .ref c :: r => refsT tl r || decide (Value.ref c :: r = tl)
  | l => decide (l = tl)
theorem refsT_cases (tl : List Value) : ∀ l : List Value, refsT tl l = true →
    (∃ c r, l = .ref c :: r ∧ refsT tl r = true) ∨ l = tl := by
  intro l h
  unfold refsT at h
  split at h
  · rename_i c r
    rcases Bool.or_eq_true_iff.mp h with q | q
    · exact .inl ⟨c, r, rfl, q⟩
    · exact .inr (of_decide_eq_true q)
  · exact .inr (of_decide_eq_true h)

/-- what a built-in exception's line says -/
structure Tl (tl : List Value) : Prop where
  pass : ∀ self, refuseLoop self "__setattr__" tl = pure ()
  obj : tl.contains (.type "object") = true
  ne : tl ≠ []
theorem tlVE : Tl [.type "ValueError", .type "Exception", .type "BaseException", .type "object"] :=
  ⟨fun s => F.store_ValueError.passes s, by decide +kernel, by decide⟩
theorem tlLE : Tl [.type "LookupError", .type "Exception", .type "BaseException", .type "object"] :=
  ⟨fun s => F.store_LookupError.passes s, by decide +kernel, by decide⟩
variable {tl : List Value}
theorem refsT_pass (T : Tl tl) (self : Value) : ∀ l : List Value, refsT tl l = true → refuseLoop self "__setattr__" l = pure () := by
  intro l
  induction l with
  | nil =>
    intro e
    rcases refsT_cases tl [] e with ⟨c, r, q, _⟩ | q
    · cases q
    · exact absurd q.symm T.ne
  | cons a r ih =>
    intro e
    rcases refsT_cases tl (a :: r) e with ⟨c, r', q, h⟩ | q
    · obtain ⟨rfl, rfl⟩ := List.cons.inj q
      rw [refuseLoop_ref]
      exact ih h
    · rw [q]
      exact T.pass self
theorem refsT_has (Y : String) : ∀ l : List Value, refsT tl l = true → l.contains (.type Y) = tl.contains (.type Y) := by
  intro l
  induction l with
  | nil =>
    intro e
    rcases refsT_cases tl [] e with ⟨c, r, q, _⟩ | q
    · cases q
    · rw [q]
  | cons a r ih =>
    intro e
    rcases refsT_cases tl (a :: r) e with ⟨c, r', q, h⟩ | q
    · obtain ⟨rfl, rfl⟩ := List.cons.inj q
      rw [List.contains_cons, ih h]
      rfl
    · rw [q]
theorem refsT_some (T : Tl tl) {l : List Value} (e : refsT tl l = true) : l.isEmpty = false := by
  rcases refsT_cases tl l e with ⟨c, r, q, _⟩ | q
  · rw [q]
    rfl
  · rw [q]
    cases tl with
    | nil => exact absurd rfl T.ne
    | cons _ _ => rfl

section
variable {prog : Program} {w : World} {A : Around} {R : Result → Shared → Prop} {hp : Heap} {g : Array GenState} {d : Drawn} {t : Nat} {os : OsState}
variable {K : W.Frag} {name : Str} {tk : Tok} {v : Value} {x C dx : Addr} {fv : Array Value} {cd : ClassData} {m0 : Str → Option Value} {nl : List Str}
/-- the first field of an exception of any line -/
theorem osa_first (T : Tl tl) (X : K.In hp) (hx : hp.get? x = some { cls := .ref C, data := .fields fv })
    (hcd : W.clsIn K C = some cd) (hm : refsT tl cd.mro = true) (hh : cd.hasDict = true) (ha : W.findIn K (.ref C) name = some none)
    (hq : ∀ h' tk' dx, (∀ b o, b ≠ x → hp.get? b = some o → h'.get? b = some o) → hp.objs.size ≤ dx → dx ≠ x →
      h'.get? x = some { cls := .ref C, dict := some dx, data := .fields fv } →
      h'.Ns1 dx (fun y => if y = name then some v else none) → R (.ok (.ret .none)) ⟨h', g, d, tk', os⟩) :
    codeAny (model prog w) A (.call (.builtin "object.__setattr__") ⟨[.ref x, .str name tk, v], []⟩) R ⟨hp, g, d, t, os⟩ := by
  have inst : W.InstAt hp x { cls := .ref C, data := .fields fv } C none := ⟨hx, rfl, rfl, trivial⟩
  have S := F.store_object
  have nempty := refsT_some T hm
  have isob : cd.mro.contains (.type "object") = true := (refsT_has "object" _ hm).trans T.obj
  have xnew : x ≠ hp.objs.size := Nat.ne_of_lt (Heap.lt_size hx)
  have lookSub : W.Looks (model prog w) hp (isInstance (.ref x) (.type "object")) true :=
    inst.type.andThen (W.looks_mroIn X (by unfold W.mroIn; rw [hcd, Option.bind_some, if_neg (by rw [nempty]; decide), isob]))
  refine codeAny_call_builtin S.slot.plain S.entry
    (@W.check_slot (model prog w) _ _ ⟨hp, g, d, t, os⟩ "object.__setattr__" "object" "__setattr__" (.ref x) [.str name tk, v] [] _
      S.kind S.split lookSub (S.args (.ref x) (.str name tk) v) ?_)
  have lookMro : W.Looks (model prog w) hp (mroOf (.ref C)) cd.mro := (W.looks_clsIn X hcd).andThen .now
  have lookTaker : W.Looks (model prog w) hp (storeTaker? none) none := .now
  have lookCls : W.Looks (model prog w) hp (classData C) cd := W.looks_clsIn X hcd
  rw [W.osa_eq, refuse_eq]
  refine wpAny_bind (wpAny_bind (inst.type.at (wpAny_bind (lookMro.at ?_))))
  rw [refsT_pass T _ _ hm]
  refine wpAny_pure (wpAny_bind (inst.type.at (wpAny_bind ((W.looks_findIn X ha).at (wpAny_bind (lookTaker.at ?_))))))
  show wpAny _ _ (storeInOwnDict (.ref x) (.ref C) (.str name tk) name v false) _ _ _
  obtain ⟨nm, bs, mro, ns, qn, hd, sn, sb, ab, col, del⟩ := cd
  dsimp only at hh
  subst hh
  unfold storeInOwnDict ownDictForStores
  repeat (first
    | with_reducible refine PySem.HandSPX.store_in_new ?_ ?_
    | with_reducible refine wpAny_loadPart_at hx ?_
    | with_reducible refine lookCls.at ?_
    | wp_step)
  · exact ⟨_, #[], _, (Heap.get?_update_ne _ _ _ _ xnew.symm).trans (Heap.get?_push_at rfl rfl), rfl, fun e he => absurd he (by simp), fun _ => rfl⟩
  · intro h' tk' hn' hs
    have stays : (hp.push { cls := .type "dict", data := .dict #[] }).get? x = some { cls := .ref C, data := .fields fv } := Heap.get?_push_of_some _ hx
    refine hq h' tk' hp.objs.size (fun b o hb ho => ?_) (Nat.le_refl _) xnew.symm ?_ hn'
    · exact (hs.2 b (Nat.ne_of_lt (Heap.lt_size ho))).trans ((Heap.get?_update_ne _ _ _ _ hb).trans (Heap.get?_push_of_some _ ho))
    · exact (hs.2 x xnew).trans (Heap.get?_update_self _ stays rfl)
end
end VfX
end PySem

namespace L2.Vf
open PySem PySem.Spec PyProof.Rows

/-- what the written part says of an own exception class at C whose line ends in tl -/
structure Xcl (K : PySem.W.Frag) (C : Addr) (tl : List Value) (newId : String) : Prop where
  cls : ∃ nm q N bs bm sn sub ab col dd k0 k1 k2 k3 k5,
    K.lookup C = some (excClassObj nm q C N bs bm true sn sub ab col dd k0 k1 k2 k3 k5 newId) ∧ VfX.refsT tl bm = true
  sa : PySem.W.findIn K (.ref C) "__setattr__" = some (some (.builtin "object.__setattr__"))
  kp : PySem.W.keepIn K (.ref C) = true

section
variable {X : Cx} {pins : List (Addr × Obj)} {σ : St} {H : Hp} {s : Shared} {a C dx CA : Addr} {f b : Str} {y : V} {u : Value}
variable {A : Around} {tl : List Value} {B newId initId : String} {e o : Expr} {es : List Expr} {te to : TE} {ta : TA} {p p' p1 p2 pos : Pos}

theorem first_field {Q : Unit → Shared → Prop} {E : Value → Shared → Prop} (T : VfX.Tl tl) (W : Xcl X.K C tl newId) (I : Inv X pins σ H s)
    (ex : H a = some (exo a C none)) (no : PySem.W.findIn X.K (.ref C) f = some none) (ry : RelV y u)
    (h : ∀ dx s', H dx = none → dx ≠ a → Inv X pins σ (upd (upd H dx (exd dx [(f, y)])) a (exo a C (some dx))) s' → Q () s') :
    wpAny (model X.prog X.w) A (setAttr (.ref a) f u) Q E s := by
  obtain ⟨nm, q, N, bs, bm, sn, sub, ab, col, dd, k0, k1, k2, k3, k5, hC, hbm⟩ := W.cls
  have hcl : PySem.W.clsIn X.K C = some { name := nm, bases := bs, mro := .ref C :: bm, ns := N, qualname := q, hasDict := true, slotNames := sn, subclasses := sub, abstract := ab, collection := col, hasDel := false } := by
    unfold PySem.W.clsIn
    rw [hC]
  have hmro : VfX.refsT tl (.ref C :: bm) = true := by
    unfold VfX.refsT
    rw [hbm]
    rfl
  obtain ⟨t1, ho⟩ := exo_at I.hok ex
  obtain ⟨hp, g, d, t, os⟩ := s
  refine PySem.W.set_plain I.kIn (od := none)
    (ox := { cls := .ref C, dict := none, data := .fields #[.ref t1, .none, .none, .none, .bool false, .none] })
    ⟨ho, rfl, rfl, trivial⟩ W.sa ?_
  refine VfX.osa_first T I.kIn ho hcl hmro rfl no fun h' tk' dx k dn dne hx hn => ?_
  have freeD : H dx = none := I.hok.fresh dn
  have offD : ∀ {c : Addr} {ob : Obj}, hp.get? c = some ob → c ≠ dx :=
    fun {c ob} z => Nat.ne_of_lt (Nat.lt_of_lt_of_le (Heap.lt_size z) dn)
  have offA : ∀ {c : Addr}, H c = none → c ≠ a := fun {c} n z => by
    rw [z, ex] at n
    cases n
  have un : Un X.fs [] H (upd (upd H dx (exd dx [(f, y)])) a (exo a C (some dx))) hp h' := {
    keep := fun c ob z n _ _ => k c ob (offA n) z
    slot := fun c ob z n _ _ => ⟨ob.slots, k c ob (offA n) z⟩
    free := fun c ob z n _ => by
      rw [upd_ne (offA n), upd_ne (offD z)]
      exact n
    there := fun c ob z _ => by
      by_cases hc : c = a
      · exact ⟨_, by rw [hc]; exact hx⟩
      · exact ⟨ob, k c ob hc z⟩
    tups := fun c xs z => by
      rw [upd_ne (at_ne ex z exo_tup), upd_ne (ne_of_none z freeD)]
      exact z
    frzs := fun c ob v z => by
      rw [upd_ne (at_ne ex z exo_frz), upd_ne (ne_of_none z freeD)]
      exact z
    tbls := fun c ps z => ⟨#[], by rw [upd_ne (at_ne ex z exo_tbl), upd_ne (ne_of_none z freeD), z]; simp⟩ }
  refine h dx _ freeD dne (I.un (t' := tk') un fun c ob z => ?_)
  by_cases hc : c = a
  · subst hc
    rw [upd_same] at z
    cases z
    exact exo_ok hx
  · rw [upd_ne hc] at z
    by_cases hd : c = dx
    · subst hd
      rw [upd_same] at z
      cases z
      exact exd_ok hn (relO_put (fs := []) ry fun _ => True.intro)
    · rw [upd_ne hd] at z
      refine (I.hok c ob z).stay (fun r v hr q => k r v ?_ q) (fun r hr => ?_) fun r xs hr => ?_
      · rcases hr with hr | hr
        · rw [hr]
          exact hc
        · exact at_ne ex hr exo_own
      · rw [upd_ne (at_ne ex hr exo_own), upd_ne (ne_of_none hr freeD)]
        exact hr
      · rw [upd_ne (at_ne ex hr exo_tup), upd_ne (ne_of_none hr freeD)]
        exact hr

/-- self.f = e, the first field of an exception -/
def tFirst (K : PySem.W.Frag) (tl : List Value) (newId : String) (f : Str) (to te : TE) : TS := fun D σ H =>
  te σ H fun y H1 => to σ H1 fun x H2 => ∃ a C : Addr, x = .ref a ∧ Xcl K C tl newId ∧ PySem.W.findIn K (.ref C) f = some none ∧
    H2 a = some (exo a C none) ∧ ∀ dx, H2 dx = none → dx ≠ a → D.nx σ (upd (upd H2 dx (exd dx [(f, y)])) a (exo a C (some dx)))
theorem ps_first (T : VfX.Tl tl) (ho : PE X o to) (he : PE X e te)
    (hs : swapsWith e (some (.Attribute o f p')) pos.line X.env = pure false := by rfl) :
    PS X (.Assign [.Attribute o f p'] e pos) (tFirst X.K tl newId f to te) := by
  refine ⟨fun pins s σ H D I h => ?_⟩
  refine plainObj_wpAny_Assign_Attribute (thn (he.run pins s σ H _ I h) fun v s1 ⟨y, H1, I1, r1, q1⟩ =>
    thn (ho.run pins s1 σ H1 _ I1 q1) fun w s2 ⟨x, H2, I2, r2, a, C, ex, W, no, ea, q⟩ => ?_) hs
  subst ex
  obtain rfl : w = Value.ref a := r2
  exact first_field T W I2 ea no r1 fun dx s' n ne J => ⟨σ, _, J, q dx n ne⟩

theorem base_init {us : List Value} {Q : Value → Shared → Prop} {E : Value → Shared → Prop} (F : ExcBaseFacts B newId initId tl)
    (W : Xcl X.K C tl newId) (I : Inv X pins σ H s) (ex : H a = some (exo a C none)) (hl : us.length ≤ sizeLine)
    (h : ∀ s', Inv X pins σ H s' → Q .none s') : wpAny (model X.prog X.w) A (call (.builtin initId) (.ref a :: us)) Q E s := by
  obtain ⟨nm, q, N, bs, bm, sn, sub, ab, col, dd, k0, k1, k2, k3, k5, hC, hbm⟩ := W.cls
  obtain ⟨t1, ho⟩ := exo_at I.hok ex
  obtain ⟨hp, g, d, t, os⟩ := s
  refine wpAny_call (PySem.HandSPX.init_base F (fun Y => VfX.refsT_has Y bm hbm) (I.kIn _ _ hC) ho hl fun h' t2 k hx => ?_)
  have J := I.write (t' := t) (x := a) (e := a) (o := exo a C none) (by rw [ex]; exact True.intro) (.inl rfl) k ⟨_, hx⟩ (exo_ok hx)
  have same : upd H a (exo a C none) = H := by
    funext c
    by_cases hc : c = a
    · rw [hc, upd_same, ex]
    · rw [upd_ne hc]
  rw [same] at J
  exact h _ J

/-- Base.__init__(self, ..), Base an own class that has none of its own -/
def tBaseI (K : PySem.W.Frag) (tl : List Value) (newId : String) (ta : TA) : TE := fun σ H Q => ta σ H fun vs H1 =>
  ∃ (a C : Addr) (ws : List V), vs = .ref a :: ws ∧ ws.length ≤ 1000 ∧ Xcl K C tl newId ∧ H1 a = some (exo a C none) ∧ Q .non H1
/-- Base.__init__ is the built-in one -/
structure BaseI (K : PySem.W.Frag) (CA : Addr) (initId : String) : Prop where
  ga : PySem.W.specialIn K (.ref CA) "__getattribute__" = some (some (.builtin "type.__getattribute__"))
  rd : PySem.W.readsIn K CA (.type "type") = true
  at_ : PySem.W.findCls K (.ref CA) (.type "type") "__init__" = some (.val (.builtin initId))
theorem pe_baseI {pl : Sem Bool} (F : ExcBaseFacts B newId initId tl) (M : BaseI X.K CA initId) (hg : Gl X b) (hm : X.mg b = some (.ref CA))
    (ha : PA X (e :: es) ta) (hin : PySem.W.handedIn (.builtin initId) = true := by decide +kernel) (hdb : (b == ("__debug__" : Str)) = false := by decide)
    (hc : eval (.Call (.Attribute (.Name b p1) "__init__" p2) (e :: es) [] pos) X.env = (do
      let ov ← eval (.Name b p1) X.env
      standAt p2.atName
      let (f, first) ← holding [ov] (getMethod ov "__init__" pl)
      callWith pos f first (backTo pos (starEach (e :: es) X.env)) (backToKw pos (keywordEach [] X.env))) := by rfl)
    (he : starEach (e :: es) X.env = (false, eval e X.env) :: starEach es X.env := by rfl)
    (hpl : (backTo pos (starEach es X.env)).any (·.1) = false := by rfl) :
    PE X (.Call (.Attribute (.Name b p1) "__init__" p2) (e :: es) [] pos) (tBaseI X.K tl newId ta) := by
  refine ⟨fun pins s σ H Q I h => ?_⟩
  refine PySem.W.methodCall_KW (ld_glob I hg hm ?_ hdb) hc
  refine PySem.W.method_cls I.kIn M.ga (PySem.W.cls_value I.kIn M.rd M.at_ hin ?_)
  show wpAny _ _ (callWith pos (Value.builtin initId) [] (backTo pos (starEach (e :: es) X.env)) []) _ _ _
  refine PyProof.Rows.callWith_method1 (thn (ha.run pos pins _ σ H _ (I.tok _) h)
    fun us s1 ⟨vs, H1, I1, r1, a, C, ws, ev, hl, W, ea, q⟩ => ?_) he hpl
  subst ev
  cases r1 with
  | @cons _ u0 _ ur ra rw' =>
    obtain rfl : u0 = Value.ref a := ra
    have hlen : ur.length ≤ sizeLine := by
      rw [← Paired.length rw', sizeLine_eq]
      omega
    exact base_init F W I1 ea hlen fun s' J => ⟨.non, H1, J, rfl, q⟩
/-- C(e, ..) as a value, C's own __init__ keeping sp -/
def tExcV (C : Addr) (sp : Sp) (ta : TA) : TE := fun σ H Q => ta σ H fun vs H1 => vs.length ≤ 1000 ∧ ∀ a, H1 a = none →
  sp (.ref a :: vs) (upd H1 a (exo a C none)) (fun v H2 => v = .non ∧ Q (.ref a) H2) (fun _ _ _ => False)
theorem pe_excV {CX : CXT} {x : Str} {fI : Addr} {k : Nat} {fd : FuncData} {ps : List Str} {sp : Sp} (F : ExcBaseFacts B newId initId tl)
    (W : Xcl X.K C tl newId) (iC : PySem.W.findIn X.K (.ref C) "__init__" = some (some (.ref fI)))
    (tI : PySem.W.typeIn X.K (.ref fI) = some (.type "function")) (F1 : FnOk X.prog X.w X.K X.mg X.base CX k fI fd ps sp)
    (hr : Room (k + 1) X.A) (hb : Binds X.K fd ps []) (hx : Passes CX X (fun _ _ _ => False)) (hg : Gl X x) (hm : X.mg x = some (.ref C))
    (ha : PA X (e :: es) ta) (hdb : (x == ("__debug__" : Str)) = false := by decide)
    (he : starEach (e :: es) X.env = (false, eval e X.env) :: starEach es X.env := by rfl)
    (hpl : (backTo pos (starEach es X.env)).any (·.1) = false := by rfl) :
    PE X (.Call (.Name x p) (e :: es) [] pos) (tExcV C sp ta) := by
  refine ⟨fun pins s σ H Q I h => ?_⟩
  obtain ⟨nm, q, N, bs, bm, sn, sub, ab, col, dd, k0, k1, k2, k3, k5, hC, hbm⟩ := W.cls
  refine wpAny_Call_Name_kw (ld_glob I hg hm ?_ hdb)
  refine PySem.W.callWith_K (h₀ := X.base) I.ok.mod.kin W.kp (thn (ha.run pos pins s σ H _ I h)
    fun us s1 ⟨vs, H1, I1, r1, hz, q1⟩ => ⟨I1.kIn, ?_⟩) he hpl
  show wpAny _ _ (call (.ref C) us) _ _ _
  obtain ⟨hp, g, dr, tk, os⟩ := s1
  have hsz : hp.objs.size ≤ hp.objs.size + 1 := Nat.le_succ _
  have hn : H1 (hp.objs.size + 1) = none := I1.hok.fresh hsz
  have hq := q1 (hp.objs.size + 1) hn
  have grown : ∀ b o, hp.get? b = some o → ((hp.push (PySem.W.kdv_tup us)).push (PySem.HandSPX.excO C hp.objs.size)).get? b = some o :=
    fun b o z => Heap.get?_push_of_some _ (Heap.get?_push_of_some _ z)
  have here : ((hp.push (PySem.W.kdv_tup us)).push (PySem.HandSPX.excO C hp.objs.size)).get? (hp.objs.size + 1) = some (PySem.HandSPX.excO C hp.objs.size) := by heap_get
  have I2 := I1.laid (t' := tk) (a := hp.objs.size + 1) (o := exo (hp.objs.size + 1) C none)
    (h' := (hp.push (PySem.W.kdv_tup us)).push (PySem.HandSPX.excO C hp.objs.size)) grown hsz (exo_ok here)
  have r2 : Vals (V.ref (hp.objs.size + 1) :: vs) (Value.ref (hp.objs.size + 1) :: us) := .cons rfl r1
  have hl : (Value.ref (hp.objs.size + 1) :: us).length = ps.length := by
    have z := r2.length
    rw [F1.len _ _ _ _ hq] at z
    exact z.symm
  have hus : us.length ≤ sizeLine := by
    rw [← Paired.length r1, sizeLine_eq]
    omega
  have hbind := hb _ (Value.ref (hp.objs.size + 1) :: us) I2.kIn (by rw [List.append_nil]; exact hl)
  rw [List.append_nil] at hbind
  refine wpAny_call (PySem.HandSPX.call_own F (fun Y => VfX.refsT_has Y bm hbm) (I1.kIn _ _ hC) (PySem.W.looks_findIn I1.kIn iC)
    (fun self => PySem.W.bind_fn I1.kIn self tI) hus
    (codeAny_mono (F1.run _ X.stack _ _ ⟨Value.ref (hp.objs.size + 1) :: us, []⟩ (Value.ref (hp.objs.size + 1) :: us) _ _ (fun _ _ _ => False)
      (hr.make C us []) (I2.env0.make C us []) hbind r2 hq) fun r s' hq' => ?_))
  cases r with
  | error er => exact hx pins σ _ _ er s' I2 hq'
  | ok fl =>
    cases fl with
    | ret u =>
      obtain ⟨v, H2, J, rv, ev, q2⟩ := I2.after hq'
      subst ev
      exact ⟨rv, .ref (hp.objs.size + 1), H2, J, rfl, q2⟩
    | next => exact False.elim hq'
    | brk => exact False.elim hq'
    | cont => exact False.elim hq'

/-- C() of an own exception class without an __init__ -/
theorem pe_excV0 {x : Str} (F : ExcBaseFacts B newId initId tl) (q : PySem.W.excIn X.K C tl newId = true) (gC : X.mg x = some (.ref C))
    (kC : PySem.W.keepIn X.K (.ref C) = true) (hg : Gl X x) (hdb : (x == ("__debug__" : Str)) = false := by decide) :
    PE X (.Call (.Name x p) [] [] pos) (fun _ H Q => ∀ a, H a = none → Q (.ref a) (upd H a (exo a C none))) := by
  refine ⟨fun pins s σ H Q I h => ?_⟩
  refine wpAny_Call_Name_kw (ld_glob I hg gC ?_ hdb)
  refine PySem.W.callWith_K0 I.kIn kC ?_
  show wpAny _ _ (call (.ref C) []) _ _ _
  obtain ⟨bm, N, nm, qn, bs, hdct, sn, sub, ab, col, dd, k0, k1, k2, k3, k5, mN, hC, hN, hni, T⟩ := exc_obj I.kIn q
  refine wpAny_call_exc_subT F T hC hN hni (fun h' a hm => ?_) (by show 0 ≤ sizeLine; exact Nat.zero_le _)
  have hn : H a = none := I.hok.gone hm.new
  obtain ⟨t, ht, _, _⟩ := hm.there
  exact ⟨.ref a, upd H a (exo a C none), I.laidN hm.keeps hm.new hn (exo_ok ht), rfl, h a hn⟩

/-! ### asked for their kind, told their fields -/
/-- what isinstance and a field's look want to know of the class D -/
structure Xask (K : PySem.W.Frag) (D : Addr) : Prop where
  cl : (PySem.W.clsIn K D).isSome = true
  hd : PySem.W.hasDictIn K D = true
  ga : PySem.W.findIn K (.ref D) "__getattribute__" = some (some (.builtin "BaseException.__getattribute__"))
  gg : PySem.W.findIn K (.ref D) "__getattr__" = some none
  ex : PySem.W.subIn K (.ref D) (.type "BaseException") = some true
  cc : PySem.W.findIn K (.ref D) "__class__" = some (some (.builtin "object.__class__"))
  cg : PySem.W.specialIn K (.builtin "object.__class__") "__get__" = some (some (.builtin "getset_descriptor.__get__"))
  ck : PySem.W.takesIn K (.builtin "object.__class__") = some true
  ob : PySem.W.mroIn K D (.type "object") = some true
/-- an exception of D stands at a, with the fields fs -/
def ExAt (H : Hp) (a D : Addr) (fs : List (Str × V)) : Prop :=
  (H a = some (exo a D none) ∧ fs = []) ∨ ∃ dx, H a = some (exo a D (some dx)) ∧ H dx = some (exd dx fs)
theorem ExAt.at_ {D : Addr} {fs : List (Str × V)} (h : ExAt H a D fs) : ∃ d, H a = some (exo a D d) := by
  rcases h with ⟨h, _⟩ | ⟨dx, h, _⟩
  · exact ⟨_, h⟩
  · exact ⟨_, h⟩
theorem inst_at {D : Addr} {fs : List (Str × V)} (I : Inv X pins σ H s) (h : ExAt H a D fs) : ∃ ox od, PySem.W.InstAt s.heap a ox D od := by
  rcases h with ⟨h, _⟩ | ⟨dx, h, hd⟩
  · obtain ⟨t1, ho⟩ := exo_at I.hok h
    exact ⟨_, none, ho, rfl, rfl, True.intro⟩
  · obtain ⟨t1, ho⟩ := exo_at I.hok h
    obtain ⟨mA, hns, _⟩ := exd_at I.hok hd
    obtain ⟨od, hod, _⟩ := lookIn_ns hns
    exact ⟨_, some od, ho, rfl, rfl, hod⟩
/-- isinstance(e, c) -/
def rIsX (K : PySem.W.Frag) : List V → Hp → VK → Prop := fun xs H Q => ∃ (a D : Addr) (fs : List (Str × V)) (c : V) (cv : Value) (b : Bool),
  xs = [.ref a, c] ∧ ExAt H a D fs ∧ Xask K D ∧ ClsV c cv ∧ PySem.W.kitOne K (.ref D) cv = some b ∧ Q (.bl b) H
theorem call_isX : CallR X (.builtin "isinstance") (rIsX X.K) := by
  intro pins s σ H xs us Q I r h
  obtain ⟨a, D, fs, c, cv, b, rfl, hx, T, hcv, hk, q⟩ := h
  cases r with
  | cons rx rr =>
    cases rr with
    | cons rt rr =>
      cases rr
      cases rx
      have ec := hcv.eq rt
      subst ec
      obtain ⟨ox, od, J⟩ := inst_at I hx
      exact PySem.W.kia_one (PySem.W.kitx_exc T.cl T.ga T.gg T.ex T.cc T.cg T.ck T.ob) I.kIn J hk (fun z => nomatch z)
        fun tk => ⟨.bl b, H, I.kept (t' := tk) fun _ _ z => z, rfl, q⟩
/-- e.f -/
def tXget (K : PySem.W.Frag) (f : Str) (te : TE) : TE := fun σ H Q => te σ H fun x H1 => ∃ (a dx D : Addr) (fs : List (Str × V)) (v : V),
  x = .ref a ∧ H1 a = some (exo a D (some dx)) ∧ H1 dx = some (exd dx fs) ∧ Xask K D ∧ PySem.W.findIn K (.ref D) f = some none ∧ fs.lookup f = some v ∧ Q v H1
theorem pe_xget (he : PE X e te) (hb : attributeBase e f X.env (eval e X.env) = eval e X.env := by rfl) : PE X (.Attribute e f pos) (tXget X.K f te) := by
  refine ⟨fun pins s σ H Q I h => ?_⟩
  refine attr_of hb (thn (he.run pins s σ H _ I h) fun u s1 hh => ?_)
  obtain ⟨x, H1, I1, rx, a, dx, D, fs, v, ex, ea, ed, T, no, l, q⟩ := hh
  subst ex
  obtain rfl : u = Value.ref a := rx
  obtain ⟨t1, ho⟩ := exo_at I1.hok ea
  obtain ⟨mA, hns, hr⟩ := exd_at I1.hok ed
  obtain ⟨od, hod, hl⟩ := lookIn_ns hns
  obtain ⟨u, hu, ru⟩ := RelO.some_of (v := v) (o := mA f) (by rw [← l]; exact hr f)
  have J : PySem.W.InstAt s1.heap a { cls := .ref D, dict := some dx, data := .fields #[.ref t1, .none, .none, .none, .bool false, .none] } D (some od) :=
    ⟨ho, rfl, rfl, hod⟩
  exact HandSPX.exc_get I1.kIn J T.ga T.gg T.ex (PySem.W.findObj_own T.hd no rfl (by rw [hl, hu])) (handed_of ru) ⟨v, H1, I1.tok _, ru, q⟩
end
end L2.Vf
/-! Defs that are called where no repr is under way; repr of data. -/
namespace L2.Vf
open PySem PySem.Spec PyProof.Rows

/-- as FnOk, but only where nothing is guarded (no repr is under way) -/
structure FnG (P : Program) (w : World) (K : PySem.W.Frag) (mg : Str → Option Value) (base : Heap) (CX : CXT) (k : Nat) (f : Addr)
    (fd : FuncData) (ps : List Str) (sp : Sp) : Prop where
  len : ∀ vs H Q E, sp vs H Q E → vs.length = ps.length
  run : ∀ (A : Around) (outer : List Env) (s : Shared) (H : Hp) (args : Args) (us : List Value) (vs : List V) (Q : VK) (E : XK),
    A.guards = some [] → Room k A → Env0 P w K mg base A outer s H → BindsTo s fd args (ps.zip us) → Vals vs us → sp vs H Q E →
    codeAny (model P w) A (.call (.ref f) args) (CR CX outer P w H s Q E) s

section
variable {CX : CXT} {P : Program} {w : World} {K : PySem.W.Frag} {mg : Str → Option Value} {base : Heap} {k : Nat} {f : Addr}
theorem fn_ofG {name qual : Str} {params : Arguments} {body : List Stmt} {scope : Scope} {dV kV doc pm cdv ct oc : Value} {an od : Option Addr}
    {osl : Array (Option Value)} {N ps : List Str} {sp : Sp}
    (lk : K.lookup f = some ⟨oc, od, .func (PySem.W.fnOf name qual params body scope dV kV doc pm an cdv ct), osl⟩)
    (hcd : PySem.W.codeIn K cdv qual = true) (S : FnScope N ps scope) (len : ∀ vs H Q E, sp vs H Q E → vs.length = ps.length)
    (hbody : ∀ (A : Around) (outer : List Env) (s : Shared) (H : Hp) (vs : List V) (Q : VK) (E : XK), A.guards = some [] →
      Room k (A.deeper (envOfC qual scope s.heap.objs.size f cdv)) → sp vs H Q E →
      ∃ t, PSs (cxOf CX P w K mg base N qual scope f cdv A outer s H E) body t ∧ t { nx := fun _ H' => Q .non H', rt := Q } (start N vs) H) :
    FnG P w K mg base CX (k + 1) f (PySem.W.fnOf name qual params body scope dV kV doc pm an cdv ct) ps sp := by
  refine ⟨len, fun A outer s H args us vs Q E hgu hr e0 hb r hsp => ?_⟩
  have hl := len _ _ _ _ hsp
  have kIn : K.In s.heap := e0.mod.kin.keeps fun b o z => (e0.bs b o z).1
  have noLim : s.heap.NoLimit := e0.mod.nolimit.keeps fun b o z => (e0.bs b o z).1
  have kinds : ∀ y ∈ ps.zip us, scope.names.lookup y.1 = some .local ∨
      (scope.names.lookup y.1 = some .cell ∧ ((cellsFrom (s.heap.objs.size + 1) scope.names []).lookup y.1).isSome = true) := by
    rintro ⟨n, v⟩ hy
    rcases S.par n (List.of_mem_zip hy).1 with z | z
    · exact .inl z
    · exact .inr ⟨z, PySem.W.cellsFrom_some _ _ _ (.inl z)⟩
  refine codeAny_call_function hr.depth (kIn _ _ lk) rfl S.co S.gen rfl (PySem.W.codeRec_of kIn hcd) (hb _ _ _ _ ?_)
  refine wpAny_newFunctionEnv_cells S.kind kinds fun env he s1 x => ?_
  subst he
  refine ⟨noLim.keeps x.toInCall.keep, codeAny_func ?_⟩
  obtain ⟨t, ht, hq⟩ := hbody A outer s H vs Q E hgu (hr.deeper _) hsp
  have I : Inv (cxOf CX P w K mg base N qual scope f cdv A outer s H E) [] (start N vs) H s1 :=
    inv_start S hr.hd e0 hl r x
  refine wpAny_mono (ht.run [] s1 (start N vs) H _ I hq) (fun fl s' hs => ?_) fun e s' hs => hs
  cases fl with
  | ret u =>
    obtain ⟨v, σ', H', J, rv, z⟩ := hs
    exact ⟨v, H', J.os, J.bare, J.base, J.hok, rv, z⟩
  | next =>
    obtain ⟨σ', H', J, z⟩ := hs
    exact ⟨V.non, H', J.os, J.bare, J.base, J.hok, rfl, z⟩
  | brk =>
    obtain ⟨_, _, _, z⟩ := hs
    exact False.elim z
  | cont =>
    obtain ⟨_, _, _, z⟩ := hs
    exact False.elim z
theorem okG {x qual : Str} {st : Stmt} {fd : FuncData} {N ps : List Str} {sp : Sp} (F : Fun K x qual st f fd) (S : FnScope N ps (defScope st))
    (len : ∀ vs H Q E, sp vs H Q E → vs.length = ps.length)
    (hbody : ∀ (cdv : Value) (A : Around) (outer : List Env) (s : Shared) (H : Hp) (vs : List V) (Q : VK) (E : XK), A.guards = some [] →
      Room k (A.deeper (envOfC qual (defScope st) s.heap.objs.size f cdv)) → sp vs H Q E →
      ∃ t, PSs (cxOf CX0 P w K mg base N qual (defScope st) f cdv A outer s H E).nox (defBody st) t ∧
        t { nx := fun _ H' => Q .non H', rt := Q } (start N vs) H) : FnG P w K mg base CX0 (k + 1) f fd ps sp := by
  obtain ⟨oc, od, kV, doc, pm, an, cdv, ct, osl, rfl, lk, hcd⟩ := F.ex
  refine fn_ofG lk hcd S len fun A outer s H vs Q E hgu hr hsp => ?_
  obtain ⟨t, h, q⟩ := hbody cdv A outer s H vs Q E hgu hr hsp
  exact ⟨t, h.nox, q⟩
end
section
variable {X : Cx} {CX : CXT} {k : Nat} {f : Addr} {fd : FuncData} {ps : List Str} {sp : Sp} {E : XK} {x : Str} {p pos : Pos} {e : Expr} {es : List Expr} {t : TA}
theorem pe_callG (F : FnG X.prog X.w X.K X.mg X.base CX k f fd ps sp) (hgu : X.A.guards = some []) (hr : Room k X.A) (hg : Gl X x)
    (hm : X.mg x = some (.ref f)) (hk : PySem.W.keepIn X.K (.ref f) = true) (hb : Binds X.K fd ps []) (hx : Passes CX X E) (ha : PA X (e :: es) t)
    (hdb : (x == ("__debug__" : Str)) = false := by decide)
    (he : starEach (e :: es) X.env = (false, eval e X.env) :: starEach es X.env := by rfl)
    (hpl : (backTo pos (starEach es X.env)).any (·.1) = false := by rfl) :
    PE X (.Call (.Name x p) (e :: es) [] pos) (tCall sp [] E t) := by
  refine ⟨fun pins s σ H Q I h => ?_⟩
  refine wpAny_Call_Name_kw (ld_glob I hg hm ?_ hdb)
  refine PySem.W.callWith_K (h₀ := X.base) I.ok.mod.kin hk (thn (ha.run pos pins s σ H _ I h) fun us s1 hh => ?_) he hpl
  obtain ⟨vs, H1, I1, r, q⟩ := hh
  refine ⟨I1.kIn, ?_⟩
  have q' : sp vs H1 Q E := by
    have z : sp (vs ++ []) H1 Q E := q
    rw [List.append_nil] at z
    exact z
  have hl : us.length = ps.length := by
    rw [← r.length]
    exact F.len _ _ _ _ q'
  have b := hb s1 us I1.kIn (by rw [List.append_nil]; exact hl)
  rw [List.append_nil] at b
  show wpAny _ _ (call (.ref f) us) _ _ _
  refine wpAny_call (codeAny_mono (F.run X.A X.stack s1 H1 ⟨us, []⟩ us vs Q E hgu hr I1.env0 b r q') fun r s' hq => ?_)
  cases r with
  | error e => exact hx pins σ H1 s1 e s' I1 hq
  | ok fl =>
    cases fl with
    | ret u => exact I1.after hq
    | next => exact False.elim hq
    | brk => exact False.elim hq
    | cont => exact False.elim hq
end

/-- the law is called where nothing is guarded -/
theorem law_callG {P : Program} {w : World} {K : PySem.W.Frag} {mg mb : Str → Option Value} {k : Nat} {fa a : Addr} {fd : FuncData} {x : Str}
    {sp : Sp} {s₁ : Shared} {vs : List Value} {ns : List Int} (inK : K.In s₁.heap) (hns : s₁.heap.Ns mainGlobals mg)
    (hb : s₁.heap.Ns builtinsNs mb) (hbb : ∀ x : Str, x ≠ "__name__" → mb x = bootBuiltins x) (hlim : s₁.heap.NoLimit) (hg : s₁.gens = #[])
    (ha : s₁.heap.get? a = some { cls := .type "list", data := .seq vs.toArray }) (hi : IntsAre vs ns) (hl : ns.length ≤ sizeLine)
    (hr : Room k callerA)
    (F : ∀ base : Heap, K.In base → base.Ns mainGlobals mg → FnG P w K mg base CX0 k fa fd [x] sp)
    (hbind : ∀ (s : Shared) (u : Value), BindsTo s fd ⟨[u], []⟩ [(x, u)])
    (hsp : ∀ H : Hp, SqL K H a (ns.map V.int) → sp [.ref a] H (fun v _ => v = .bl true) fun _ _ _ => False) :
    codeAny (model P w) callerA (.call (.ref fa) ⟨[.ref a], []⟩)
      (fun r s' => r = .ok (.ret (.bool true)) ∧ OldK s₁.heap s'.heap ∧ s'.os = s₁.os ∧ AllBare s'.gens) s₁ := by
  have rv := vals_ints hi
  have lenV := hi.length
  have main : ∀ H : Hp, Only H → SqL K H a (ns.map V.int) → HOk P w H s₁.heap → (∀ b, H b ≠ none → b = a) →
      (H a ≠ none → K.lookup a = none) → codeAny (model P w) callerA (.call (.ref fa) ⟨[.ref a], []⟩)
      (fun r s' => r = .ok (.ret (.bool true)) ∧ OldK s₁.heap s'.heap ∧ s'.os = s₁.os ∧ AllBare s'.gens) s₁ := by
    intro H only seq ok onlyA notK
    have notDict : ∀ {b : Addr} {o : Obj} {es : Array DictEntry} {ep : Nat}, s₁.heap.get? b = some o → o.data = .dict es ep → H b = none := by
      intro b o es ep z d
      cases q : H b with
      | none => rfl
      | some u =>
        obtain rfl := onlyA b (by rw [q]; simp)
        rw [ha] at z
        cases z
        cases (show Data.seq vs.toArray _ = Data.dict es ep from d)
    have nsT : ∀ {b : Addr} {m : Str → Option Value}, s₁.heap.Ns b m → (hidT s₁.heap H).Ns b m := by
      rintro b m ⟨o, es, ep, z, d, r⟩
      exact ⟨o, es, ep, hidT_get z (notDict z d), d, r⟩
    have kT : K.In (hidT s₁.heap H) := fun b o z => hidT_get (inK b o z) (by
      cases q : H b with
      | none => rfl
      | some u =>
        obtain rfl := onlyA b (by rw [q]; simp)
        rw [notK (by rw [q]; simp)] at z
        cases z)
    have mod : Mod K mg (hidT s₁.heap H) := by
      obtain ⟨mc, h1, h2⟩ := hlim
      exact ⟨kT, nsT hns, ⟨mb, nsT hb, hbb⟩, ⟨mc, nsT h1, h2⟩⟩
    have env : Env0 P w K mg (hidT s₁.heap H) callerA [] s₁ H :=
      ⟨rfl, mod, fun b o z => of_hidT z, Nat.le_of_eq (hidT_size _ _), trivial, (fun b z => by cases z), ok, .of_eq hg⟩
    refine codeAny_mono ((F _ kT (nsT hns)).run callerA [] s₁ H ⟨[.ref a], []⟩ [.ref a] [.ref a] _ _ rfl hr env (hbind s₁ (.ref a))
      (.cons rfl .nil) (hsp H seq)) fun r s' h => ?_
    cases r with
    | error e => exact False.elim h
    | ok fl =>
      cases fl with
      | next => exact False.elim h
      | brk => exact False.elim h
      | cont => exact False.elim h
      | ret u =>
        obtain ⟨v, H', os, bare, un, ok', r', q⟩ := h
        obtain rfl : v = .bl true := q
        obtain rfl : u = Value.bool true := r'
        refine ⟨rfl, OldK.of_keep fun b o z => ?_, os, bare⟩
        cases q : H b with
        | none => exact un.keep b o z q (by intro y; cases y) (by simp)
        | some u =>
          rcases only b with y | ⟨ob, xs, y⟩
          · rw [q] at y
            cases y
          · obtain ⟨e1, _⟩ := ok b _ y
            obtain ⟨e2, _⟩ := ok' b _ (un.frzs b ob _ y)
            rw [z] at e1
            cases e1
            exact e2
  cases hk : K.lookup a with
  | some o =>
    have z := inK a o hk
    rw [ha] at z
    cases z
    refine main (fun _ => none) (fun _ => .inl rfl) (.inr ⟨_, vs.toArray, _, hk, rfl, rfl, rfl, ?_, ?_⟩) (fun b u y => ?_) (fun b y => absurd rfl y) fun y => absurd rfl y
    · rw [List.size_toArray, lenV]
      exact hl
    · simpa using rv
    · cases (show (none : Option HO) = some u from y)
  | none =>
    let T : Hp := fun b => if b = a then some (.frz { cls := .type "list", data := .seq vs.toArray } (.lst (ns.map V.int))) else none
    have at_ : T a = some (.frz { cls := .type "list", data := .seq vs.toArray } (.lst (ns.map V.int))) := if_pos rfl
    have off : ∀ {b : Addr}, b ≠ a → T b = none := fun z => if_neg z
    refine main T (fun b => ?_) (.inl (.inr ⟨_, at_⟩)) (fun b u z => ?_) (fun b z => ?_) fun _ => hk
    · by_cases h : b = a
      · rw [h]
        exact .inr ⟨_, _, at_⟩
      · exact .inl (off h)
    · by_cases h : b = a
      · subst h
        rw [at_] at z
        cases z
        exact ⟨ha, by rw [List.length_map]; exact hl, vs, _, rv, ha⟩
      · rw [off h] at z
        cases z
    · by_cases h : b = a
      · exact h
      · exact absurd (off h) z

/-- the law's end, by a promise that holds where nothing is guarded -/
theorem walk_ofG {l : PySem.W.OpenLaw} {n k : Nat} {q : Program} {loose : List Str} {XP : (Str → Option Value) → Heap → Prop}
    {YP : World → Heap → Prop} {d : DefRec} {K : Params → PySem.W.Frag} {sp : World → Sp} {x : Str}
    (hn : l.most = some n) (hn2 : n ≤ sizeLine) (hdf : d.params.defaults = []) (hr : Room k callerA)
    (hY : ∀ (w : World) (h : Heap), YP w h → (K w.params).In h)
    (F : ∀ (w : World) (mg : Str → Option Value) (fa : Addr) (h : Heap), (K w.params).In h → h.Ns mainGlobals mg → mg d.name = some (.ref fa) →
      ∃ fd : FuncData, (∀ (s : Shared) (u : Value), BindsTo s fd ⟨[u], []⟩ [(x, u)]) ∧
        ∀ base : Heap, (K w.params).In base → base.Ns mainGlobals mg → FnG l.prog w (K w.params) mg base CX0 k fa fd [x] (sp w))
    (hsp : ∀ (w : World) (H : Hp) (a : Addr) (ns : List Int), ns.length ≤ n → SqL (K w.params) H a (ns.map V.int) →
      sp w [.ref a] H (fun v _ => v = .bl true) fun _ _ _ => False) :
    PySem.W.WalkO q loose XP YP l.row.toRowW d [] (fun f vs => PySem.call f vs) := by
  refine Att.attach_call hn hdf fun w s₀ s₁ mg mb fa o pm cd doc a vs ns G Y ho hd hcd hmg hobj hints hlen hg => ?_
  have inK := hY w _ Y
  obtain ⟨fd, hb, hF⟩ := F w mg fa _ inK G.T.g hmg
  exact law_callG inK G.T.g G.T.b G.T.builtins G.T.nolimit hg hobj hints (Nat.le_trans hlen hn2) hr hF hb fun H hS => hsp w H a ns hlen hS
end L2.Vf
/-! What an expression gives, told by a property that stands while the heap only grows. -/
namespace L2.Vf
open PySem PySem.Spec PyProof.Rows
open Evl (Ex Ev EvL EvA)

/-- a property of a value that stands while the heap only grows -/
abbrev Pr := V → Hp → Prop
def Mono (P : Pr) : Prop := ∀ v H H', Ex H H' → P v H → P v H'
def EvP (te : TE) (σ : St) (H : Hp) (P : Pr) : Prop := ∀ H1, Ex H H1 → ∀ Q : VK, (∀ v H2, Ex H1 H2 → P v H2 → Q v H2) → te σ H1 Q
def AllP : List Pr → List V → Hp → Prop
  | [], [], _ => True
  | P :: Ps, v :: vs, H => P v H ∧ AllP Ps vs H
  | _, _, _ => False
theorem AllP.mono {H H' : Hp} (e : Ex H H') : ∀ {Ps : List Pr} {vs : List V}, (∀ P ∈ Ps, Mono P) → AllP Ps vs H → AllP Ps vs H'
  | [], [], _, _ => True.intro
  | P :: Ps, v :: vs, m, h => ⟨m P List.mem_cons_self v H H' e h.1, AllP.mono e (fun Q hQ => m Q (List.mem_cons_of_mem _ hQ)) h.2⟩
  | [], _ :: _, _, h => h.elim
  | _ :: _, [], _, h => h.elim
theorem AllP.len {H : Hp} : ∀ {Ps : List Pr} {vs : List V}, AllP Ps vs H → vs.length = Ps.length
  | [], [], _ => rfl
  | _ :: _, _ :: _, h => by
    rw [List.length_cons, List.length_cons, AllP.len h.2]
  | [], _ :: _, h => h.elim
  | _ :: _, [], h => h.elim
theorem AllP.app {H : Hp} : ∀ {Ps Qs : List Pr} {vs ws : List V}, AllP Ps vs H → AllP Qs ws H → AllP (Ps ++ Qs) (vs ++ ws) H
  | [], _, [], _, _, k => k
  | _ :: _, _, _ :: _, _, h, k => ⟨h.1, AllP.app h.2 k⟩
  | [], _, _ :: _, _, h, _ => h.elim
  | _ :: _, _, [], _, h, _ => h.elim
theorem AllP.get {H : Hp} : ∀ {Ps : List Pr} {vs : List V} {i : Nat} {P : Pr}, AllP Ps vs H → Ps[i]? = some P → ∃ v, vs[i]? = some v ∧ P v H
  | _ :: _, v :: _, 0, P, h, e => by
    obtain rfl := Option.some.inj e
    exact ⟨v, rfl, h.1⟩
  | _ :: _, _ :: _, i + 1, P, h, e => by
    obtain ⟨v, hv, hp⟩ := AllP.get (i := i) (P := P) h.2 (by simpa using e)
    exact ⟨v, by simpa using hv, hp⟩
  | [], _, _, _, _, e => by simp at e
  | _ :: _, [], _, _, h, _ => h.elim
def EvPs (ta : TA) (σ : St) (H : Hp) (Ps : List Pr) : Prop := ∀ H1, Ex H H1 → ∀ Q : List V → Hp → Prop, (∀ vs H2, Ex H1 H2 → AllP Ps vs H2 → Q vs H2) → ta σ H1 Q
/-- just this value -/
def is (x : V) : Pr := fun v _ => v = x
/-- a list of such, a tuple of such -/
def lstOf (Ps : List Pr) : Pr := fun v H => ∃ p vs, v = .ref p ∧ H p = some (.lst vs) ∧ AllP Ps vs H
def tupOf (Ps : List Pr) : Pr := fun v H => ∃ p vs, v = .ref p ∧ H p = some (.tup vs) ∧ AllP Ps vs H
theorem mono_is {x : V} : Mono (is x) := fun _ _ _ _ h => h
theorem mono_lstOf {Ps : List Pr} (m : ∀ P ∈ Ps, Mono P) : Mono (lstOf Ps) := by
  rintro v H H' e ⟨p, vs, rfl, h, k⟩
  exact ⟨p, vs, rfl, e _ _ h, k.mono e m⟩
theorem mono_tupOf {Ps : List Pr} (m : ∀ P ∈ Ps, Mono P) : Mono (tupOf Ps) := by
  rintro v H H' e ⟨p, vs, rfl, h, k⟩
  exact ⟨p, vs, rfl, e _ _ h, k.mono e m⟩
section
variable {K : PySem.W.Frag} {σ : St} {H H' : Hp} {ta : TA} {te tb tx : TE} {P R : Pr} {Ps : List Pr} {x : V}
theorem EvP.grow (e : Ex H H') (h : EvP te σ H P) : EvP te σ H' P := fun H1 a Q q => h H1 (e.trans a) Q q
theorem EvP.to (h : EvP te σ H P) (k : ∀ v H', Ex H H' → P v H' → R v H') : EvP te σ H R := fun H1 a Q q =>
  h H1 a Q fun v H2 b p => q v H2 b (k v H2 (a.trans b) p)
theorem evp_ev (h : Ev te σ H x) : EvP te σ H (is x) := fun H1 e Q q => h H1 e Q fun H2 e2 => q x H2 e2 rfl
theorem evp_var {i : Nat} (h : σ[i]? = some (some x)) : EvP (tVar i) σ H (is x) := evp_ev (Evl.ev_var h)
theorem evp_c : EvP (tC x) σ H (is x) := evp_ev Evl.ev_c
theorem evs_nil : EvPs tNil σ H [] := fun H1 _ Q q => q [] H1 (Ex.refl H1) True.intro
theorem evs_cons (h : EvP te σ H P) (m : Mono P) (hr : EvPs ta σ H Ps) : EvPs (tCons te ta) σ H (P :: Ps) := fun H1 e Q q =>
  h H1 e _ fun v H2 e2 p => hr H2 (e.trans e2) _ fun vs H3 e3 k => q (v :: vs) H3 (e2.trans e3) ⟨m v H2 H3 e3 p, k⟩
theorem evp_lst (h : EvPs ta σ H Ps) (m : ∀ P ∈ Ps, Mono P) (hl : Ps.length ≤ 1000) : EvP (tLst ta) σ H (lstOf Ps) := fun H1 e Q q =>
  h H1 e _ fun vs H2 e2 k => ⟨Nat.le_of_lt (small1000 (by rw [k.len]; exact hl)), fun p hp =>
    q (.ref p) _ (e2.trans (Ex.new hp)) ⟨p, vs, rfl, upd_same, k.mono (Ex.new hp) m⟩⟩
theorem evp_tup (h : EvPs ta σ H Ps) (m : ∀ P ∈ Ps, Mono P) (hl : Ps.length ≤ 1000) : EvP (tTup ta) σ H (tupOf Ps) := fun H1 e Q q =>
  h H1 e _ fun vs H2 e2 k => ⟨Nat.le_of_lt (small1000 (by rw [k.len]; exact hl)), fun p hp =>
    q (.ref p) _ (e2.trans (Ex.new hp)) ⟨p, vs, rfl, upd_same, k.mono (Ex.new hp) m⟩⟩
/-- xs + ys -/
theorem evp_cat {Qs : List Pr} (ha : EvP te σ H (lstOf Ps)) (hb : EvP tb σ H (lstOf Qs)) (m1 : ∀ P ∈ Ps, Mono P) (m2 : ∀ P ∈ Qs, Mono P)
    (hl : Ps.length + Qs.length ≤ 1000) : EvP (tOp rCat te tb) σ H (lstOf (Ps ++ Qs)) := fun H1 e Q q => by
  refine ha H1 e _ fun v H2 e2 hv => hb H2 (e.trans e2) _ fun w H3 e3 hw => ?_
  obtain ⟨p, vs, rfl, hp, kp⟩ := mono_lstOf m1 v H2 H3 e3 hv
  obtain ⟨r, ws, rfl, hr, kr⟩ := hw
  refine ⟨p, r, vs, ws, rfl, rfl, hp, hr, ?_, fun t ht => q _ _ ((e2.trans e3).trans (Ex.new ht)) ⟨t, vs ++ ws, rfl, upd_same, ?_⟩⟩
  · rw [kp.len, kr.len]
    exact Nat.le_of_lt (small1000 hl)
  · exact (kp.app kr).mono (Ex.new ht) fun P hP => by
      rcases List.mem_append.mp hP with z | z
      · exact m1 P z
      · exact m2 P z
end
section
variable {K : PySem.W.Frag} {σ : St} {H H' : Hp} {ta : TA} {te tb tx : TE} {P R : Pr} {Ps : List Pr} {x : V} {C : Addr} {f : Str}
theorem evp_held {i : Nat} (h : σ[i]? = some (some x)) (p : P x H) (m : Mono P) : EvP (tVar i) σ H P := fun H1 e Q q =>
  ⟨x, h, q x H1 (Ex.refl H1) (m x H H1 e p)⟩
theorem allP_is : ∀ {xs vs : List V} {H : Hp}, AllP (xs.map is) vs H → vs = xs
  | [], [], _, _ => rfl
  | x :: xs, v :: vs, _, h => by
    rw [allP_is h.2, show v = x from h.1]
  | [], _ :: _, _, h => h.elim
  | _ :: _, [], _, h => h.elim
/-! ### exceptions -/
def exOf0 (C : Addr) : Pr := fun v H => ∃ a, v = .ref a ∧ H a = some (exo a C none)
def exOf1 (C : Addr) (f : Str) (P : Pr) : Pr := fun v H => ∃ a dx y, v = .ref a ∧ H a = some (exo a C (some dx)) ∧ H dx = some (exd dx [(f, y)]) ∧ P y H
theorem mono_ex0 : Mono (exOf0 C) := by
  rintro v H H' e ⟨a, rfl, h⟩
  exact ⟨a, rfl, e _ _ h⟩
theorem mono_ex1 (m : Mono P) : Mono (exOf1 C f P) := by
  rintro v H H' e ⟨a, dx, y, rfl, h, k, p⟩
  exact ⟨a, dx, y, rfl, e _ _ h, e _ _ k, m _ _ _ e p⟩
theorem exOf0.at_ {v : V} (h : exOf0 C v H) : ∃ a, v = .ref a ∧ ExAt H a C [] := by
  obtain ⟨a, rfl, h⟩ := h
  exact ⟨a, rfl, .inl ⟨h, rfl⟩⟩
theorem exOf1.at_ {v : V} (h : exOf1 C f P v H) : ∃ a y, v = .ref a ∧ ExAt H a C [(f, y)] := by
  obtain ⟨a, dx, y, rfl, h, k, _⟩ := h
  exact ⟨a, y, rfl, .inr ⟨dx, h, k⟩⟩
theorem ExAt.mono {a D : Addr} {fs : List (Str × V)} (e : Ex H H') (h : ExAt H a D fs) : ExAt H' a D fs := by
  rcases h with ⟨h, rfl⟩ | ⟨dx, h, k⟩
  · exact .inl ⟨e _ _ h, rfl⟩
  · exact .inr ⟨dx, e _ _ h, e _ _ k⟩
theorem evp_ex0 : EvP (fun _ H Q => ∀ a, H a = none → Q (.ref a) (upd H a (exo a C none))) σ H (exOf0 C) := fun H1 _ Q q a n =>
  q _ _ (Ex.new n) ⟨a, rfl, upd_same⟩
theorem ev_isx {a D d : Addr} {fs : List (Str × V)} {b : Bool} (ha : Ev te σ H (.ref a)) (hx : ExAt H a D fs) (T : Xask K D)
    (hk : PySem.W.kitOne K (.ref D) (.ref d) = some b) : Ev (tCB (rIsX K) (tCons te (tCons (tC (.ref d)) tNil))) σ H (.bl b) := fun H1 e Q q =>
  ha H1 e _ fun H2 e2 => ⟨a, D, fs, .ref d, .ref d, b, rfl, hx.mono (e.trans e2), T, .own d, hk, q H2 e2⟩
theorem ev_isxT {a D : Addr} {n : String} {fs : List (Str × V)} {b : Bool} (ha : Ev te σ H (.ref a)) (hx : ExAt H a D fs) (T : Xask K D)
    (hk : PySem.W.kitOne K (.ref D) (.type n) = some b) : Ev (tCB (rIsX K) (tCons te (tCons (tC (.ty n)) tNil))) σ H (.bl b) := fun H1 e Q q =>
  ha H1 e _ fun H2 e2 => ⟨a, D, fs, .ty n, .type n, b, rfl, hx.mono (e.trans e2), T, .ty n, hk, q H2 e2⟩
end
/-- a while whose end is told once -/
theorem while_e {c : TT} {tb : TS} {D : Ends} {σ : St} {H : Hp} (Pv Pe : St → Hp → Prop) (μ : St → Hp → Nat) (h0 : Pv σ H)
    (hs : ∀ σ H, Pv σ H → c σ H fun b H1 => if b = true then tb { D with nx := fun σ' H' => Pv σ' H' ∧ μ σ' H' < μ σ H, ct := fun σ' H' => Pv σ' H' ∧ μ σ' H' < μ σ H, bk := D.nx } σ H1 else Pe σ H1)
    (he : ∀ σ H, Pe σ H → D.nx σ H) (mono : ∀ σ H Q Q', (∀ b H1, Q b H1 → Q' b H1) → c σ H Q → c σ H Q') : tWhile c tb D σ H := by
  refine while_by Pv μ h0 (fun σ1 H1 h => mono _ _ _ _ (fun b H2 z => ?_) (hs σ1 H1 h)) mono
  cases b with
  | true => exact z
  | false =>
    have z' : Pe σ1 H2 := by
      rw [if_neg Bool.false_ne_true] at z
      exact z
    exact iteF (he _ _ z')
end L2.Vf
/-! Data with dicts in it, and its repr. -/
namespace L2.Vf
open PySem PySem.Spec PyProof.Rows
open Evl (Ex Ev EvL EvA)

def kDat : Key → PyData
  | .inl i => .int i
  | .inr x => .str x
mutual
inductive Dq (K : PySem.W.Frag) (H : Hp) : V → PyData → Prop
  | non : Dq K H .non .none
  | bl (b : Bool) : Dq K H (.bl b) (.bool b)
  | int (i : Int) : Dq K H (.int i) (.int i)
  | str (x : Str) : Dq K H (.str x) (.str x)
  | lst {a : Addr} {xs : List V} {ds : List PyData} : a ≠ sysModules → SqL K H a xs → DqAll K H xs ds → Dq K H (.ref a) (.list ds)
  | tup {a : Addr} {xs : List V} {ds : List PyData} : SqT K H a xs → DqAll K H xs ds → Dq K H (.ref a) (.tuple ds)
  | dct {a : Addr} {kvs : List (Key × V)} {es : List (PyData × PyData)} : H a = some (.dK kvs) → DqKv K H kvs es → Dq K H (.ref a) (.dict es)
inductive DqAll (K : PySem.W.Frag) (H : Hp) : List V → List PyData → Prop
  | nil : DqAll K H [] []
  | cons {v : V} {vs : List V} {d : PyData} {ds : List PyData} : Dq K H v d → DqAll K H vs ds → DqAll K H (v :: vs) (d :: ds)
inductive DqKv (K : PySem.W.Frag) (H : Hp) : List (Key × V) → List (PyData × PyData) → Prop
  | nil : DqKv K H [] []
  | cons {k : Key} {v : V} {kvs : List (Key × V)} {d : PyData} {es : List (PyData × PyData)} : Dq K H v d → DqKv K H kvs es → DqKv K H ((k, v) :: kvs) ((kDat k, d) :: es)
end
mutual
theorem Dq.mono {K : PySem.W.Frag} {H H' : Hp} (e : Ex H H') : ∀ (d : PyData) (v : V), Dq K H v d → Dq K H' v d
  | .none, _, h => by cases h; exact .non
  | .bool b, _, h => by cases h; exact .bl b
  | .int i, _, h => by cases h; exact .int i
  | .str x, _, h => by cases h; exact .str x
  | .list ds, _, h => by
    cases h with
    | lst hn hs ha => exact .lst hn (Evl.ex_l e hs) (DqAll.mono e ds _ ha)
  | .tuple ds, _, h => by
    cases h with
    | tup hs ha => exact .tup (Evl.ex_t e hs) (DqAll.mono e ds _ ha)
  | .dict es, _, h => by
    cases h with
    | dct hs ha => exact .dct (e _ _ hs) (DqKv.mono e es _ ha)
theorem DqAll.mono {K : PySem.W.Frag} {H H' : Hp} (e : Ex H H') : ∀ (ds : List PyData) (vs : List V), DqAll K H vs ds → DqAll K H' vs ds
  | [], _, h => by cases h; exact .nil
  | d :: ds, _, h => by
    cases h with
    | cons h1 h2 => exact .cons (Dq.mono e d _ h1) (DqAll.mono e ds _ h2)
theorem DqKv.mono {K : PySem.W.Frag} {H H' : Hp} (e : Ex H H') : ∀ (es : List (PyData × PyData)) (kvs : List (Key × V)), DqKv K H kvs es → DqKv K H' kvs es
  | [], _, h => by cases h; exact .nil
  | (_, d) :: es, _, h => by
    cases h with
    | cons h1 h2 => exact .cons (Dq.mono e d _ h1) (DqKv.mono e es _ h2)
end
section
variable {X : Cx} {pins : List (Addr × Obj)} {σ : St} {H : Hp} {s : Shared}
theorem reads_kv {kvs : List (Key × V)} {vs : List (Key × Value)} {es : List DictEntry} (r : KV kvs vs) (p : Pairs (mixKind X.prog X.w) es vs) :
    ReadsAll s.heap (es.map (·.key)) (kvs.map fun q => kDat q.1) [] ∧ Vals (kvs.map (·.2)) (es.map (·.val)) := by
  induction p generalizing kvs with
  | nil =>
    cases r
    exact ⟨.nil, .nil⟩
  | @cons e kv es vs h1 h2 _ ih =>
    cases r with
    | @cons q _ qs _ hq hr =>
      obtain ⟨z1, z2⟩ := ih hr
      have hk : Reads s.heap e.key (kDat q.1) [] := by
        rw [hq.1]
        rcases keyIs_shape h1 with ⟨i, t, e1, e2⟩ | ⟨x, t, e1, e2⟩
        · rw [e1, e2]
          exact .int i t
        · rw [e1, e2]
          exact .str x t
      exact ⟨.cons hk z1, 
        .cons (by show RelV q.2 e.val; rw [h2]; exact hq.2) z2⟩
mutual
theorem Dq.reads (I : Inv X pins σ H s) : ∀ (d : PyData) (v : V) (u : Value), Dq X.K H v d → RelV v u → ∃ as, Reads s.heap u d as ∧ sysModules ∉ as
  | .none, _, _, h, r => by
    cases h
    cases r
    exact ⟨_, .none, by simp⟩
  | .bool b, _, _, h, r => by
    cases h
    cases r
    exact ⟨_, .bool b, by simp⟩
  | .int i, _, _, h, r => by
    cases h
    obtain ⟨t, rfl⟩ := r
    exact ⟨_, .int i t, by simp⟩
  | .str x, _, _, h, r => by
    cases h
    obtain ⟨t, rfl⟩ := r
    exact ⟨_, .str x t, by simp⟩
  | .list ds, _, _, h, r => by
    cases h with
    | lst na hq ha =>
      cases r
      obtain ⟨its, rv, ⟨o, n, ho, hc, _, hd⟩, _⟩ := I.list hq
      obtain ⟨as, hr, hn⟩ := DqAll.reads I ds _ its ha rv
      refine ⟨_, Reads.list ho hc hd hr, fun z => ?_⟩
      rcases List.mem_cons.mp z with z | z
      · exact na z.symm
      · exact hn z
  | .tuple ds, _, _, h, r => by
    cases h with
    | tup hq ha =>
      cases r
      obtain ⟨its, rv, ⟨o, ho, hc, n, hd⟩, _⟩ := I.tuple hq
      obtain ⟨as, hr, hn⟩ := DqAll.reads I ds _ its ha rv
      exact ⟨_, Reads.tuple ho hc hd hr, hn⟩
  | .dict es, _, _, h, r => by
    cases h with
    | dct hq ha =>
      cases r
      obtain ⟨_, hne, vs, rel, ⟨o, ds, ep, ho, hx, hd, _, hp, _⟩⟩ := dk_of I.hok hq
      obtain ⟨z1, z2⟩ := reads_kv rel hp
      obtain ⟨k1, as, k2, hn⟩ := DqKv.reads I es _ _ ha z2
      rw [k1] at z1
      refine ⟨_, Reads.dict ho hx.1 hd z1 k2, fun z => ?_⟩
      rcases List.mem_append.mp z with z | z
      · rcases List.mem_cons.mp z with z | z
        · rw [z] at hne
          exact absurd hne (by simp)
        · cases z
      · exact hn z
theorem DqAll.reads (I : Inv X pins σ H s) : ∀ (ds : List PyData) (vs : List V) (us : List Value), DqAll X.K H vs ds → Vals vs us →
    ∃ as, ReadsAll s.heap us ds as ∧ sysModules ∉ as
  | [], _, _, h, r => by
    cases h
    cases r
    exact ⟨_, .nil, by simp⟩
  | d :: ds, _, _, h, r => by
    cases h with
    | cons h1 h2 =>
      cases r with
      | cons r1 r2 =>
        obtain ⟨as, q1, n1⟩ := Dq.reads I d _ _ h1 r1
        obtain ⟨bs, q2, n2⟩ := DqAll.reads I ds _ _ h2 r2
        refine ⟨_, .cons q1 q2, fun z => ?_⟩
        rcases List.mem_append.mp z with z | z
        · exact n1 z
        · exact n2 z
theorem DqKv.reads (I : Inv X pins σ H s) : ∀ (es : List (PyData × PyData)) (kvs : List (Key × V)) (us : List Value), DqKv X.K H kvs es →
    Vals (kvs.map (·.2)) us → (kvs.map fun q => kDat q.1) = es.map (·.1) ∧ ∃ as, ReadsAll s.heap us (es.map (·.2)) as ∧ sysModules ∉ as
  | [], _, _, h, r => by
    cases h
    cases r
    exact ⟨rfl, _, .nil, by simp⟩
  | (k, d) :: es, _, _, h, r => by
    cases h with
    | cons h1 h2 =>
      cases r with
      | cons r1 r2 =>
        obtain ⟨as, q1, n1⟩ := Dq.reads I d _ _ h1 r1
        obtain ⟨e1, bs, q2, n2⟩ := DqKv.reads I es _ _ h2 r2
        refine ⟨by rw [List.map_cons, List.map_cons, e1], _, .cons q1 q2, fun z => ?_⟩
        rcases List.mem_append.mp z with z | z
        · exact n1 z
        · exact n2 z
end
/-- repr of a list, a tuple, a dict -/
def rRepr (K : PySem.W.Frag) : List V → Hp → VK → Prop := fun xs H Q => ∃ (a : Addr) (d : PyData), xs = [.ref a] ∧ Dq K H (.ref a) d ∧
  d.showable = true ∧ d.depth ≤ 50 ∧ d.shown.length ≤ sizeLine ∧ Q (.str d.shown) H
theorem call_repr (hg : X.A.guards = some []) (hu : X.A.units + 100 < cLine) : CallR X (.builtin "repr") (rRepr X.K) := by
  intro pins s σ H xs us Q I r h
  obtain ⟨a, d, rfl, hd, sh, dp, sz, q⟩ := h
  cases r with
  | cons rx rr =>
    cases rr
    obtain rfl := rx
    obtain ⟨as, hr, hn⟩ := Dq.reads I d _ _ hd rfl
    refine repr_of_reads' hr sh (fun _ => hn) hg (by omega) (fun _ _ z => z) (fun h' u tk hk => ?_) sz
    exact ⟨.str d.shown, H, I.kept (t' := tk) hk, ⟨u, rfl⟩, q⟩
/-! ### new lists, with the word that they are not the module table -/
def tLstN (t : TA) : TE := fun σ H Q => t σ H fun xs H1 => xs.length ≤ sizeLine ∧ ∀ p, H1 p = none → p ≠ sysModules → Q (.ref p) (upd H1 p (.lst xs))
theorem pe_lstN {es : List Expr} {t : TA} {pos : Pos} (h : PA X es t) : PE X (.List es pos) (tLstN t) := by
  refine ⟨fun pins s σ H Q I hq => ?_⟩
  refine wpAny_List_spliced (thn (h.run pos pins s σ H _ I hq) fun us s1 hh => ?_)
  obtain ⟨xs, H1, I1, r, z, q⟩ := hh
  refine ⟨by rw [← r.length]; exact z, .ref _, _, I1.lnew (t' := s1.toks) r z, rfl, q _ I1.fresh ?_⟩
  exact Nat.ne_of_gt I1.big
def rRepN : R2 := fun x y H Q => ∃ l k xs, x = .ref l ∧ y = .int k ∧ H l = some (.lst xs) ∧ -(2 ^ 63) ≤ k ∧ k < 2 ^ 63 ∧
  xs.length * k.toNat ≤ sizeLine ∧ ∀ p, H p = none → p ≠ sysModules → Q (.ref p) (upd H p (.lst (List.replicate k.toNat xs).flatten))
theorem op_repN : OpR X (binaryOp .Mult) rRepN := by
  intro pins s σ H x y v u Q I rx ry h
  obtain ⟨l, k, xs, rfl, rfl, hl0, lo, hi, hz, q⟩ := h
  obtain ⟨t, rfl⟩ := ry
  obtain rfl := rx
  obtain ⟨z, its, n, r, hl, e⟩ := I.lstM hl0
  have room : its.toArray.size * k.toNat ≤ sizeLine := by
    rw [List.size_toArray, ← hl]
    exact hz
  have cap : ¬ its.toArray.size * k.toNat > (2 ^ 63 - 1) / 8 := by
    have line : (sizeLine : Nat) ≤ (2 ^ 63 - 1) / 8 := by decide
    omega
  have fits : ¬ (!Builtin.List.listFitsIndex k) = true := by
    rw [fitsIndex_both lo hi]
    decide
  have long : ¬ Builtin.List.listTooLong (its.toArray.size * k.toNat) = true := by
    rw [notLongL room]
    decide
  have plain : ∀ m : Nat, List.foldl (fun x1 x2 => x1 ++ x2) #[] (List.replicate m its.toArray) = (List.replicate m its).flatten.toArray := by
    intro m
    have z := foldl_rep its m []
    rwa [List.nil_append] at z
  have made : List.foldl (fun x1 x2 => x1 ++ x2) #[] (List.replicate (if its.toArray.isEmpty = true then 0 else k.toNat) its.toArray) =
      (List.replicate k.toNat its).flatten.toArray := by
    rw [plain]
    cases its with
    | nil => simp
    | cons a r' => rw [if_neg (by simp)]
  refine wpAny_binaryOp_repeat_ref (T := "list") (U := "int") (by decide) ⟨_, e, rfl⟩ (fun s' => typeIs_int s' k t) noFill_list_mul
    F.fills_int_mul F.slot_int_rmul repeat_list F.slot_int_index.lookup ?_
  refine call_meets F.slot_int_rmul (typeIs_int s k t) F.entry_int_rmul (F.args_int_rmul_2 _ _)
    (int___rmul___int_list k t l its.toArray n) ⟨e, rfl, ⟨_, e, rfl⟩, ?_⟩
  refine call_meets F.slot_list_mul ⟨_, e, rfl⟩ F.entry_list_mul (F.args_list_mul_2 _ _)
    (AutoListH.list___mul___list_int_3 l its.toArray n k t fits cap long) ⟨e, ?_⟩
  rw [made]
  refine ⟨.ref _, _, I.lnew (t' := s.toks) (r.rep k.toNat) ?_, rfl, q _ I.fresh (Nat.ne_of_gt I.big)⟩
  rw [PyProof.Rows.lm_len_rep_flat, Nat.mul_comm]
  exact hz

/-! ### the written part by its name, for what stands within a comprehension -/
theorem call_lenK {K : PySem.W.Frag} (hK : X.K = K := by rfl) : CallR X (.builtin "len") (Evl.rLenS K) := by
  subst hK
  exact call_len_seq
theorem ix_listK {K : PySem.W.Frag} (hK : X.K = K := by rfl) : IxR X (rIxL K) := by
  subst hK
  exact ix_list
theorem ix_tupK {K : PySem.W.Frag} (hK : X.K = K := by rfl) : IxR X (rIxT K) := by
  subst hK
  exact ix_tup
theorem call_isXK {K : PySem.W.Frag} (hK : X.K = K := by rfl) : CallR X (.builtin "isinstance") (rIsX K) := by
  subst hK
  exact call_isX
/-- a text times an int -/
theorem op_mulS : OpR X (binaryOp .Mult) (fun x y H Q => ∃ (z : Str) (n : Int), x = .str z ∧ y = .int n ∧ MulOk z n ∧ Q (.str (Txt.mul z n)) H) := by
  intro pins s σ H x y v u Q I rx ry h
  obtain ⟨z, n, rfl, rfl, hz, q⟩ := h
  obtain ⟨t, rfl⟩ := rx
  obtain ⟨t', rfl⟩ := ry
  exact SB.mul hz fun t2 k => ⟨.str (Txt.mul z n), H, I.kept (t' := k) fun _ _ z => z, ⟨t2, rfl⟩, q⟩
end
end L2.Vf
/-! Fields, places, new lists that may be shown: what they give. -/
namespace L2.Vf
open PySem PySem.Spec PyProof.Rows
open Evl (Ex Ev EvT EvL EvA)
theorem units100 {k : Nat} {A : Around} (r : Room k A) : A.units + 100 < cLine := by have := r.un; omega
section
variable {K : PySem.W.Frag} {σ : St} {H H' : Hp} {ta : TA} {te tb tx : TE} {P R : Pr} {Ps : List Pr} {x : V} {C : Addr} {f : Str} {D : Ends} {i : Nat} {u : TS}
theorem set_go (h : EvP te σ H P) (k : ∀ v H2, Ex H H2 → P v H2 → u D (σ.set i (some v)) H2) : tSeq (tAsg te (gName i)) u D σ H := h H (Ex.refl H) _ k
theorem ret_go (h : EvP te σ H P) (k : ∀ v H2, Ex H H2 → P v H2 → D.rt v H2) : tRet te D σ H := h H (Ex.refl H) _ k
theorem if_go {tt : TT} {tu tv : TS} {b : Bool} (h : EvT tt σ H b) (k1 : ∀ H2, Ex H H2 → b = true → tu D σ H2) (k2 : ∀ H2, Ex H H2 → b = false → tv D σ H2) : tIfS tt tu tv D σ H :=
  h H (Ex.refl H) _ fun H2 e2 => by
    cases b with
    | true => exact k1 H2 e2 rfl
    | false => exact k2 H2 e2 rfl
theorem ev_of (h : EvP te σ H (is x)) : Ev te σ H x := fun H1 e Q q => h H1 e Q fun v H2 e2 hv => by
  obtain rfl : v = x := hv
  exact q H2 e2
/-- the i-th of a list -/
theorem evp_at {j : Nat} (h : EvP te σ H (lstOf Ps)) (e : Ps[j]? = some P) : EvP (tOp (rIxL K) te (tC (.int (j : Int)))) σ H P := fun H1 e1 Q q =>
  h H1 e1 _ fun v H2 e2 hv => by
    obtain ⟨p, vs, rfl, hp, hk⟩ := hv
    obtain ⟨y, hy, py⟩ := hk.get e
    exact ⟨p, vs, (j : Int), y, rfl, rfl, SqL.of hp, atI_nat hy, q y H2 e2 py⟩
/-- e.f, e a held exception -/
theorem evp_fld (h : EvP te σ H (exOf1 C f P)) (T : Xask K C) (no : PySem.W.findIn K (.ref C) f = some none) : EvP (tXget K f te) σ H P := fun H1 e1 Q q =>
  h H1 e1 _ fun v H2 e2 hv => by
    obtain ⟨a, dx, y, rfl, h1, h2, py⟩ := hv
    exact ⟨a, dx, C, [(f, y)], y, rfl, h1, h2, T, no, by simp [List.lookup], q y H2 e2 py⟩
/-- a new list that is not the module table -/
def lstN (Ps : List Pr) : Pr := fun v H => ∃ p vs, v = .ref p ∧ p ≠ sysModules ∧ H p = some (.lst vs) ∧ AllP Ps vs H
theorem mono_lstN (m : ∀ P ∈ Ps, Mono P) : Mono (lstN Ps) := by
  rintro v H H' e ⟨p, vs, rfl, n, h, k⟩
  exact ⟨p, vs, rfl, n, e _ _ h, k.mono e m⟩
theorem evp_lstN (h : EvPs ta σ H Ps) (m : ∀ P ∈ Ps, Mono P) (hl : Ps.length ≤ 1000) : EvP (tLstN ta) σ H (lstN Ps) := fun H1 e Q q =>
  h H1 e _ fun vs H2 e2 k => ⟨Nat.le_of_lt (small1000 (by rw [k.len]; exact hl)), fun p hp n =>
    q (.ref p) _ (e2.trans (Ex.new hp)) ⟨p, vs, rfl, n, upd_same, k.mono (Ex.new hp) m⟩⟩
theorem allP_rep {v : V} (h : P v H) : ∀ n, AllP (List.replicate n P) (List.replicate n [v]).flatten H
  | 0 => True.intro
  | n + 1 => ⟨h, allP_rep h n⟩
/-- [x] * n -/
theorem evp_repN {n : Nat} (h : EvP te σ H (lstN [P])) (m : Mono P) (hn : n ≤ 1000) : EvP (tOp rRepN te (tC (.int (n : Int)))) σ H (lstN (List.replicate n P)) := fun H1 e1 Q q =>
  h H1 e1 _ fun v H2 e2 hv => by
    obtain ⟨p, vs, rfl, np, hp, hk⟩ := hv
    obtain ⟨y, rfl, py⟩ : ∃ y, vs = [y] ∧ P y H2 := by
      cases vs with
      | nil => exact hk.elim
      | cons y r =>
        cases r with
        | nil => exact ⟨y, rfl, hk.1⟩
        | cons _ _ => exact hk.2.elim
    refine ⟨p, (n : Int), [y], rfl, rfl, hp, by omega, by omega, ?_, fun r hr nr => q (.ref r) _ (e2.trans (Ex.new hr)) ⟨r, _, rfl, nr, upd_same, ?_⟩⟩
    · show [y].length * (n : Int).toNat ≤ sizeLine
      have := small1000 hn
      simp
      omega
    · rw [Int.toNat_natCast]
      exact allP_rep (m y H2 _ (Ex.new hr) py) n
/-- tuple(l), l a list or a tuple -/
def rTupOf (K : PySem.W.Frag) : List V → Hp → VK → Prop := fun zs H Q => ∃ p ys, zs = [.ref p] ∧ ((SqL K H p ys ∧ ∀ l, H l = none → Q (.ref l) (upd H l (.tup ys))) ∨ (SqT K H p ys ∧ Q (.ref p) H))
theorem evp_tupOf {l : Addr} {xs : List V} (h : EvP te σ H (is (.ref l))) (hl : SqL K H l xs ∨ SqT K H l xs) :
    EvP (tCB (rTupOf K) (tCons te tNil)) σ H (fun v H => ∃ t, v = .ref t ∧ SqT K H t xs) := fun H1 e1 Q q => by
  exact h H1 e1 _ fun v H2 e2 hv => by
    obtain rfl : v = .ref l := hv
    refine ⟨l, xs, rfl, ?_⟩
    rcases hl with hl | hl
    · exact .inl ⟨Evl.ex_l (e1.trans e2) hl, fun t ht => q _ _ (e2.trans (Ex.new ht)) ⟨t, rfl, SqT.of upd_same⟩⟩
    · exact .inr ⟨Evl.ex_t (e1.trans e2) hl, q _ _ e2 ⟨l, rfl, Evl.ex_t (e1.trans e2) hl⟩⟩
/-- data that can be shown -/
def okB (d : PyData) : Bool := d.showable && decide (d.depth ≤ 50) && decide (d.shown.length ≤ 10000)
theorem evp_repr {d : PyData} (h : EvP te σ H (lstN Ps)) (hd : ∀ v H2, Ex H H2 → lstN Ps v H2 → Dq K H2 v d) (ok : okB d = true) : EvP (tCB (rRepr K) (tCons te tNil)) σ H (is (.str d.shown)) := fun H1 e1 Q q =>
  h H1 e1 _ fun v H2 e2 hv => by
    obtain ⟨p, vs, rfl, rest⟩ := hv
    unfold okB at ok
    simp only [Bool.and_eq_true, decide_eq_true_eq] at ok
    obtain ⟨⟨o1, o2⟩, o3⟩ := ok
    exact ⟨p, d, rfl, hd _ _ (e1.trans e2) ⟨p, vs, rfl, rest⟩, o1, o2, Nat.le_trans o3 (by decide), q _ H2 e2 rfl⟩
/-- all of them hold data -/
def DsOf (K : PySem.W.Frag) (H : Hp) : List Pr → List PyData → Prop
  | [], [] => True
  | P :: Ps, d :: ds => (∀ v, P v H → Dq K H v d) ∧ DsOf K H Ps ds
  | _, _ => False
theorem dqAll_of : ∀ {Ps : List Pr} {vs : List V} {ds : List PyData} {H : Hp}, AllP Ps vs H → DsOf K H Ps ds → DqAll K H vs ds
  | [], [], [], _, _, _ => .nil
  | _ :: _, _ :: _, _ :: _, _, h, g => .cons (g.1 _ h.1) (dqAll_of h.2 g.2)
  | [], _ :: _, _, _, h, _ => h.elim
  | _ :: _, [], _, _, h, _ => h.elim
  | [], [], _ :: _, _, _, g => g.elim
  | _ :: _, _ :: _, [], _, _, g => g.elim
theorem call_tuple_ofK {X : Cx} (hK : X.K = K := by rfl) : CallR X (.type "tuple") (rTupOf K) := by
  subst hK
  exact call_tuple_of
theorem op_neDK {X : Cx} (hu : X.A.units + 64 < cLine) (hK : X.K = K := by rfl) : OpR X (compareOp .NotEq) (rNeD K) := by
  subst hK
  exact op_neD hu
end
end L2.Vf
/-! Dicts whose keys are texts and tuples, mixed: what they hold, found, read, written. -/
namespace L2.Vf
open PySem PySem.Spec PyProof.Rows
/-- a row of the dict: the key, its value, what stands under it -/
abbrev Mr := NestedKey × Value × Value
def mEnt (w : World) (r : Mr) : DictEntry := ⟨r.1.hash w, r.2.1, r.2.2⟩
/-- the rows of a dict, in order -/
structure MxRows (w : World) (h : Heap) (es : Array DictEntry) (xs : List Mr) : Prop where
  at_ : es.toList = xs.map (mEnt w)
  key : ∀ r ∈ xs, NestedIs h r.1 r.2.1 ∧ r.1.depth ≤ 8
  one : (xs.map (·.1)).Nodup
/-- the row of the key k stands at place i -/
def MxAt (xs : List Mr) (k : NestedKey) (i : Nat) : Prop := ∃ r, xs[i]? = some r ∧ r.1 = k
theorem MxAt.uniq {xs : List Mr} {k : NestedKey} (hn : (xs.map (·.1)).Nodup) {i j : Nat} (a : MxAt xs k i) (b : MxAt xs k j) : i = j := by
  obtain ⟨r, hi, rfl⟩ := a
  obtain ⟨q, hj, e⟩ := b
  have x1 : (xs.map (·.1))[i]? = some r.1 := by rw [List.getElem?_map, hi]; rfl
  have x2 : (xs.map (·.1))[j]? = some r.1 := by rw [List.getElem?_map, hj, ← e]; rfl
  exact (List.getElem?_inj (List.getElem?_eq_some_iff.mp x1).1 hn).mp (x1.trans x2.symm)
section
variable {prog : Program} {w : World} {A : Around} {E : Value → Shared → Prop} {s : Shared} {es : Array DictEntry} {xs : List Mr} {k : NestedKey} {key : Value} {d : Addr} {o : Obj} {ep : Nat}
theorem MxRows.get (M : MxRows w s.heap es xs) (j : Nat) : es[j]? = (xs[j]?).map (mEnt w) := by
  rw [← Array.getElem?_toList, M.at_, List.getElem?_map]
theorem MxRows.size (M : MxRows w s.heap es xs) : es.size = xs.length := by
  rw [← Array.length_toList, M.at_, List.length_map]
theorem MxRows.mem (M : MxRows w s.heap es xs) {e : DictEntry} (h : e ∈ es) : ∃ r ∈ xs, e = mEnt w r := by
  have z : e ∈ xs.map (mEnt w) := M.at_ ▸ Array.mem_toList_iff.mpr h
  obtain ⟨r, hr, rfl⟩ := List.mem_map.mp z
  exact ⟨r, hr, rfl⟩
abbrev mPl (w : World) (es : Array DictEntry) (k : NestedKey) : List Nat := placesWithHash es.size (fun i => es[i]?.map (·.hash)) (k.hash w)
theorem mem_mPl (M : MxRows w s.heap es xs) {i : Nat} : i ∈ mPl w es k ↔ ∃ r, xs[i]? = some r ∧ r.1.hash w = k.hash w := by
  unfold mPl placesWithHash
  rw [List.mem_filter, List.mem_range]
  show i < es.size ∧ ((es[i]?.map (·.hash)) == some (k.hash w)) = true ↔ _
  rw [M.get i, M.size]
  constructor
  · rintro ⟨h1, h2⟩
    obtain ⟨r, hr⟩ : ∃ r, xs[i]? = some r := ⟨_, List.getElem?_eq_getElem h1⟩
    rw [hr] at h2
    refine ⟨r, hr, ?_⟩
    simpa [mEnt] using h2
  · rintro ⟨r, hr, e⟩
    refine ⟨(List.getElem?_eq_some_iff.mp hr).1, ?_⟩
    rw [hr]
    simpa [mEnt] using e
theorem nodup_mPl : (mPl w es k).Nodup := List.Pairwise.filter _ List.nodup_range
theorem MxAt.mem (M : MxRows w s.heap es xs) {i : Nat} (h : MxAt xs k i) : i ∈ mPl w es k := by
  obtain ⟨r, hr, rfl⟩ := h
  exact (mem_mPl M).mpr ⟨r, hr, rfl⟩
theorem eq_mix {x y : NestedKey} {a b : Value} {Q : Bool → Shared → Prop} (hu : A.units + 8 < cLine) (hx : NestedIs s.heap x a) (hy : NestedIs s.heap y b) (d1 : x.depth ≤ 8) (h : Q (decide (x = y)) s) :
    wpAny (model prog w) A (eqBool a b) Q E s := by
  refine eqAt_key x y A s a b hx hy (by have := Nat.min_le_left x.depth y.depth; omega) prog w E Q ?_
  rw [← NestedKey.decide_eq]
  exact h
theorem tells_mix {stored : List Value} {Q : Bool → Shared → Prop} (hk : NestedIs s.heap k key) (dk : k.depth ≤ 8) (hs : ∀ v ∈ stored, ∃ q, NestedIs s.heap q v ∧ q.depth ≤ 8) (h : Q false s) :
    wpAny (model prog w) A (tableMayTell key stored) Q E s := by
  unfold tableMayTell
  by_cases hz : stored.isEmpty = true
  · rw [if_pos hz]
    exact wpAny_pure h
  rw [if_neg hz]
  refine wpAny_bind (quiet_key k key 8 s hk dk A E _ ?_)
  rw [if_neg (by decide)]
  refine wpAny_bind (wpAny_forIn_list _ (fun rest r s1 => s1 = s ∧ r = (none, ()) ∧ ∀ v ∈ rest, v ∈ stored) _ ?_ ?_ _ _ ⟨rfl, rfl, fun _ z => z⟩)
  · rintro x rest r s1 ⟨rfl, rfl, sub⟩
    obtain ⟨q, hq, dq⟩ := hs x (sub x List.mem_cons_self)
    refine wpAny_bind (quiet_key q x 8 s1 hq dq A E _ ?_)
    rw [if_neg (by decide)]
    exact wpAny_pure ⟨rfl, rfl, fun v hv => sub v (List.mem_cons_of_mem _ hv)⟩
  · rintro r s1 ⟨rfl, rfl, _⟩
    exact wpAny_pure h
/-- how the places are walked -/
abbrev MxSeen (xs : List Mr) (k : NestedKey) (pl rest : List Nat) (hit : Option Nat) : Prop := ∃ done, pl = done ++ rest ∧ ((hit = none ∧ ∀ i ∈ done, ¬ MxAt xs k i) ∨ ∃ i, hit = some i ∧ i ∈ done ∧ MxAt xs k i)
theorem MxSeen.next {pl rest : List Nat} {hit : Option Nat} {x : Nat} (h : MxSeen xs k pl (x :: rest) hit) (n : ¬ MxAt xs k x) : MxSeen xs k pl rest hit := by
  obtain ⟨done, e, h⟩ := h
  refine ⟨done ++ [x], by rw [e]; simp, ?_⟩
  rcases h with ⟨h1, h2⟩ | ⟨i, h1, h2, h3⟩
  · refine .inl ⟨h1, fun i hi => ?_⟩
    rcases List.mem_append.mp hi with z | z
    · exact h2 i z
    · rw [List.mem_singleton.mp z]
      exact n
  · exact .inr ⟨i, h1, List.mem_append_left _ h2, h3⟩
theorem MxSeen.hit {pl rest : List Nat} {hit : Option Nat} {x : Nat} (h : MxSeen xs k pl (x :: rest) hit) (n : MxAt xs k x) (hn : (xs.map (·.1)).Nodup) (hp : pl.Nodup) : hit = none ∧ MxSeen xs k pl rest (some x) := by
  obtain ⟨done, e, h⟩ := h
  have off : x ∉ done := fun z => by
    rw [e] at hp
    exact (List.nodup_append.mp hp).2.2 x z x List.mem_cons_self rfl
  refine ⟨?_, done ++ [x], by rw [e]; simp, .inr ⟨x, rfl, by simp, n⟩⟩
  rcases h with ⟨h1, _⟩ | ⟨i, _, h2, h3⟩
  · exact h1
  · rw [MxAt.uniq hn h3 n] at h2
    exact absurd h2 off
theorem MxSeen.end_ {hit : Option Nat} (M : MxRows w s.heap es xs) (h : MxSeen xs k (mPl w es k) [] hit) : (hit = none ∧ ∀ i, ¬ MxAt xs k i) ∨ ∃ i, hit = some i ∧ MxAt xs k i := by
  obtain ⟨done, e, h⟩ := h
  rw [List.append_nil] at e
  rcases h with ⟨h1, h2⟩ | ⟨i, h1, _, h3⟩
  · exact .inl ⟨h1, fun i hi => h2 i (e ▸ hi.mem M) hi⟩
  · exact .inr ⟨i, h1, h3⟩
/-- the walk where all keys are carried by value -/
theorem plain_mix {Q : Option Nat → Shared → Prop} (hu : A.units + 8 < cLine) (hk : NestedIs s.heap k key) (dk : k.depth ≤ 8) (ho : s.heap.get? d = some o) (hd : o.data = .dict es ep) (M : MxRows w s.heap es xs)
    (h0 : (∀ i, ¬ MxAt xs k i) → Q none s) (h1 : ∀ i, MxAt xs k i → Q (some i) s) : wpAny (model prog w) A (dictWalkPlain d key (k.hash w) es (mPl w es k)) Q E s := by
  unfold dictWalkPlain
  refine wpAny_bind (wpAny_forIn_list _ (fun rest r s1 => s1 = s ∧ r = (none, ()) ∧ MxSeen xs k (mPl w es k) rest none) _ ?_ ?_ _ _ ⟨rfl, rfl, [], rfl, .inl ⟨rfl, fun i z => by cases z⟩⟩)
  · rintro x rest r s1 ⟨rfl, rfl, seen⟩
    have hx : x ∈ mPl w es k := by
      obtain ⟨done, e, _⟩ := seen
      rw [e]
      simp
    obtain ⟨q, hq, hh⟩ := (mem_mPl M).mp hx
    rw [M.get x, hq]
    dsimp only [Option.map]
    have hkey := (M.key q (List.mem_of_getElem? hq))
    rw [if_pos (show ((mEnt w q).hash == k.hash w) = true by simpa [mEnt] using hh)]
    refine wpAny_bind (wpAny_dictEpoch ho hd (wpAny_bind (eq_mix hu hkey.1 hk hkey.2 (wpAny_bind (wpAny_dictEpoch ho hd ?_)))))
    rw [if_neg (by simp)]
    by_cases e : q.1 = k
    · rw [decide_eq_true e, if_pos rfl]
      exact wpAny_bind (wpAny_rule (wpAny_pure (wpAny_pure (h1 x ⟨q, hq, e⟩))))
    · rw [decide_eq_false e, if_neg (by decide)]
      refine wpAny_bind (wpAny_rule (wpAny_pure ⟨rfl, rfl, seen.next ?_⟩))
      rintro ⟨q', hq', e'⟩
      rw [hq] at hq'
      cases hq'
      exact e e'
  · rintro r s1 ⟨rfl, rfl, seen⟩
    rcases seen.end_ M with ⟨_, z⟩ | ⟨i, z, _⟩
    · exact wpAny_pure (h0 z)
    · cases z
/-- the key is looked for -/
theorem find_mix {Q : Option Nat → Shared → Prop} (hu : A.units + 8 < cLine) (hk : NestedIs s.heap k key) (dk : k.depth ≤ 8) (ho : s.heap.get? d = some o) (hd : o.data = .dict es ep) (M : MxRows w s.heap es xs)
    (h0 : (∀ i, ¬ MxAt xs k i) → Q none s) (h1 : ∀ i, MxAt xs k i → Q (some i) s) : wpAny (model prog w) A (dictFind d key (k.hash w)) Q E s := by
  have stored : ∀ v ∈ (mPl w es k).filterMap (fun i => es[i]?.map (·.key)), ∃ q, NestedIs s.heap q v ∧ q.depth ≤ 8 := by
    intro v hv
    obtain ⟨i, _, hi⟩ := List.mem_filterMap.mp hv
    rw [M.get i] at hi
    cases hr : xs[i]? with
    | none => rw [hr] at hi; cases hi
    | some r =>
      rw [hr] at hi
      obtain rfl : r.2.1 = v := by simpa [mEnt] using hi
      exact ⟨r.1, M.key r (List.mem_of_getElem? hr)⟩
  have changed : ∀ a, key = .ref a → ¬ (es.any fun e => e.key == key && e.hash != k.hash w) = true := by
    intro a _ z
    obtain ⟨e, he, hc⟩ := List.any_eq_true.mp (by rw [← Array.any_toList] at z; exact z)
    obtain ⟨r, hr, rfl⟩ := M.mem (Array.mem_toList_iff.mp he)
    simp only [mEnt, Bool.and_eq_true, beq_iff_eq, bne_iff_ne, ne_eq] at hc
    have same := NestedIs.inj _ _ _ (hc.1 ▸ (M.key r hr).1) hk
    exact hc.2 (by rw [same])
  unfold dictFind
  try with_reducible refine wpAny_holding ?_
  refine wpAny_bind (wpAny_dictEntries ho hd ?_)
  by_cases allT : (∃ x t, key = Value.str x t) ∧ (es.all fun e => isExactStrKey e.key) = true
  · obtain ⟨⟨x, t, rfl⟩, ha⟩ := allT
    dsimp only
    rw [if_pos ha]
    cases hk
    have isS : ∀ {j : Nat} {r : Mr}, xs[j]? = some r → ((mEnt w r).key.isStr x = true ↔ r.1 = .text x) := by
      intro j r hj
      obtain ⟨e1, _⟩ := M.key r (List.mem_of_getElem? hj)
      have e2 : isExactStrKey r.2.1 = true := by
        have z := Array.all_eq_true'.mp ha (mEnt w r) (Array.mem_of_getElem? (by rw [M.get j, hj]; rfl))
        exact z
      obtain ⟨q, kv, v⟩ := r
      cases kv with
      | str y t' =>
        cases e1
        simp [mEnt, Value.isStr]
      | _ => cases e2
    unfold foundByValue
    cases hf : es.findIdx? (fun e => e.key.isStr x) with
    | none =>
      refine wpAny_pure (h0 fun i => ?_)
      rintro ⟨r, hr, e⟩
      have z := Array.findIdx?_eq_none_iff.mp hf (mEnt w r) (Array.mem_of_getElem? (by rw [M.get i, hr]; rfl))
      rw [(isS hr).mpr e] at z
      cases z
    | some i =>
      obtain ⟨hlt, hi, _⟩ := Array.findIdx?_eq_some_iff_getElem.mp hf
      obtain ⟨r, hr⟩ : ∃ r, xs[i]? = some r := ⟨_, List.getElem?_eq_getElem (by rw [← M.size]; exact hlt)⟩
      have he : es[i]? = some (mEnt w r) := by rw [M.get i, hr]; rfl
      have hi' : (mEnt w r).key.isStr x = true := by
        rw [Array.getElem?_eq_getElem hlt] at he
        rw [← Option.some.inj he]
        exact hi
      have e := (isS hr).mp hi'
      dsimp only
      rw [he]
      dsimp only
      have hkey := M.key r (List.mem_of_getElem? hr)
      refine wpAny_bind (wpAny_dictEpoch ho hd (wpAny_bind (eq_mix (y := .text x) hu hkey.1 (.text x t) hkey.2 (wpAny_bind (wpAny_dictEpoch ho hd ?_)))))
      rw [if_neg (by simp), decide_eq_true e, if_pos rfl]
      exact wpAny_bind (wpAny_rule (wpAny_pure (h1 i ⟨r, hr, e⟩)))
  · dsimp only
    by_cases hv : ((key :: ((placesWithHash es.size (fun i => es[i]?.map (·.hash)) (k.hash w)).filterMap fun i => es[i]?.map (·.key))).all carriedByValue) = true
    · split
      all_goals
        try rw [if_neg (fun z => allT ⟨⟨_, _, rfl⟩, z⟩)]
        rw [if_pos hv]
        exact plain_mix hu hk dk ho hd M h0 h1
    · have alone := Classical.em (((((placesWithHash es.size (fun i => es[i]?.map (·.hash)) (k.hash w)).filterMap fun i => es[i]?.map (·.key))) == [key]) = true)
      split
      all_goals
        try rw [if_neg (fun z => allT ⟨⟨_, _, rfl⟩, z⟩)]
        rw [if_neg hv]
        split
      all_goals try (exfalso; rename_i hz; exact absurd hz (fun q => by cases q); done)
      all_goals
        try rw [if_neg (changed _ rfl)]
        rcases alone with alone | alone
        all_goals
          first
          | rw [if_pos alone]
          | rw [if_neg alone]
          first
          | refine wpAny_bind (wpAny_pure ?_)
          | refine wpAny_bind (tells_mix hk dk stored ?_)
          rw [if_neg (by simp)]
          refine wpAny_bind (wpAny_forIn_list _ (fun rest b s1 => s1 = s ∧ ∃ hit, b = (none, hit) ∧ MxSeen xs k (mPl w es k) rest hit) _ ?_ ?_ _ _ ⟨rfl, none, rfl, [], rfl, .inl ⟨rfl, fun i z => by cases z⟩⟩)
          · rintro x rest b s1 ⟨rfl, hit, rfl, seen⟩
            have hx : x ∈ mPl w es k := by
              obtain ⟨done, e, _⟩ := seen
              rw [e]
              simp
            obtain ⟨q, hq, hh⟩ := (mem_mPl M).mp hx
            have hkey := M.key q (List.mem_of_getElem? hq)
            have he : es[x]? = some (mEnt w q) := by rw [M.get x, hq]; rfl
            rw [he]
            dsimp only
            rw [if_pos (show ((mEnt w q).hash == k.hash w) = true by simpa [mEnt] using hh)]
            refine wpAny_bind (wpAny_dictEpoch ho hd (wpAny_bind (eq_mix hu hkey.1 hk hkey.2 (wpAny_bind (wpAny_dictEpoch ho hd ?_)))))
            rw [if_neg (by simp)]
            by_cases e : q.1 = k
            · rw [decide_eq_true e, if_pos rfl]
              obtain ⟨rfl, seen'⟩ := seen.hit ⟨q, hq, e⟩ M.one nodup_mPl
              rw [if_neg (by simp)]
              refine wpAny_bind (wpAny_rule ?_)
              split
              · exact wpAny_pure (wpAny_pure (h1 x ⟨q, hq, e⟩))
              · exact wpAny_pure ⟨rfl, some x, rfl, seen'⟩
            · rw [decide_eq_false e, if_neg (by decide)]
              refine wpAny_bind (wpAny_rule ?_)
              rw [if_neg (by simp)]
              refine wpAny_pure ⟨rfl, hit, rfl, seen.next ?_⟩
              rintro ⟨q', hq', e'⟩
              rw [hq] at hq'
              cases hq'
              exact e e'
          · rintro b s1 ⟨rfl, hit, rfl, seen⟩
            rcases seen.end_ M with ⟨rfl, z⟩ | ⟨i, rfl, z⟩
            · exact wpAny_pure (h0 z)
            · exact wpAny_pure (h1 i z)
end
end L2.Vf
/-! Dicts of mixed keys: read and written. -/
namespace L2.Vf
open PySem PySem.Spec PyProof.Rows
/-- what stands under k -/
def mGet (xs : List Mr) (k : NestedKey) : Option Mr := xs.find? fun r => decide (r.1 = k)
def mPut (xs : List Mr) (k : NestedKey) (key v : Value) : List Mr := if (mGet xs k).isSome = true then xs.map (fun r => if r.1 = k then (r.1, r.2.1, v) else r) else xs ++ [(k, key, v)]
def MixAt (w : World) (h : Heap) (d : Addr) (xs : List Mr) : Prop := ∃ (o : Obj) (es : Array DictEntry) (ep : Nat), h.get? d = some o ∧ o.ExactDict ∧ o.data = .dict es ep ∧ MxRows w h es xs
theorem mGet_none {xs : List Mr} {k : NestedKey} (h : ∀ i, ¬ MxAt xs k i) : mGet xs k = none := by
  unfold mGet
  rw [List.find?_eq_none]
  intro r hr z
  obtain ⟨i, hi⟩ := List.mem_iff_getElem?.mp hr
  exact h i ⟨r, hi, of_decide_eq_true z⟩
theorem mGet_some {xs : List Mr} {k : NestedKey} (hn : (xs.map (·.1)).Nodup) {i : Nat} {r : Mr} (hi : xs[i]? = some r) (e : r.1 = k) : mGet xs k = some r := by
  unfold mGet
  cases hf : xs.find? (fun r => decide (r.1 = k)) with
  | none =>
    have z := List.find?_eq_none.mp hf r (List.mem_of_getElem? hi)
    simp [e] at z
  | some q =>
    have hq : q.1 = k := by simpa using List.find?_some hf
    obtain ⟨j, hj⟩ := List.mem_iff_getElem?.mp (List.mem_of_find?_eq_some hf)
    have := MxAt.uniq hn ⟨q, hj, hq⟩ ⟨r, hi, e⟩
    subst this
    rw [hi] at hj
    exact hj.symm ▸ rfl
section
variable {prog : Program} {w : World} {A : Around} {E : Value → Shared → Prop} {s : Shared} {xs : List Mr} {k : NestedKey} {key : Value} {d : Addr}
theorem MixAt.typeIs (M : MixAt w s.heap d xs) : s.TypeIs (.ref d) "dict" := by
  obtain ⟨o, es, ep, ho, hx, _⟩ := M
  exact ⟨o, ho, hx.1⟩
theorem MixAt.len (M : MixAt w s.heap d xs) : ∃ o es ep, s.heap.get? d = some o ∧ o.data = .dict es ep ∧ es.size = xs.length := by
  obtain ⟨o, es, ep, ho, _, hd, R⟩ := M
  exact ⟨o, es, ep, ho, hd, R.size⟩
theorem get_mix {Q : Option Value → Shared → Prop} (hu : A.units + 16 < cLine) (hk : NestedIs s.heap k key) (dk : k.depth ≤ 8) (M : MixAt w s.heap d xs)
    (h : Q ((mGet xs k).map (·.2.2)) { s with toks := s.toks + k.draws }) : wpAny (model prog w) A (dictGet d key) Q E s := by
  obtain ⟨o, es, ep, ho, _, hd, R⟩ := M
  unfold dictGet
  try with_reducible refine wpAny_holding ?_
  refine wpAny_bind (pyHash_key k key A s _ hk (by omega) (wpAny_bind ?_))
  refine find_mix (s := { s with toks := s.toks + k.draws }) (by omega) hk dk ho hd ⟨R.at_, R.key, R.one⟩ (fun z => ?_) (fun i z => ?_)
  · rw [mGet_none z] at h
    exact wpAny_pure h
  · obtain ⟨r, hr, e⟩ := z
    rw [mGet_some R.one hr e] at h
    refine wpAny_bind (wpAny_dictEntries (s := { s with toks := s.toks + k.draws }) ho hd ?_)
    rw [R.get i, hr]
    exact wpAny_pure h
theorem NestedIs.mut {h h' : Heap} {q : NestedKey} {v : Value} {o : Obj} {es : Array DictEntry} {ep : Nat} (ho : h.get? d = some o) (hd : o.data = .dict es ep) (st : ∀ b, b ≠ d → h'.get? b = h.get? b) (x : NestedIs h q v) : NestedIs h' q v := by
  refine NestedIs.at (fun b ob vs n hb hc => ?_) q v x
  by_cases e : b = d
  · rw [e, ho] at hb
    cases hb
    rw [hd] at hc
    cases hc
  · rw [st b e]
    exact hb
theorem set_mix {v : Value} {Q : Unit → Shared → Prop} (hu : A.units + 16 < cLine) (hk : NestedIs s.heap k key) (dk : k.depth ≤ 8) (M : MixAt w s.heap d xs) (hz : xs.length ≤ sizeLine)
    (h : ∀ h', MixAt w h' d (mPut xs k key v) → Heap.SameBut d s.heap h' → Q () { s with heap := h', toks := s.toks + k.draws }) : wpAny (model prog w) A (dictSet d key v) Q E s := by
  obtain ⟨o, es, ep, ho, hx, hd, R⟩ := M
  unfold dictSet
  try with_reducible refine wpAny_holding ?_
  refine wpAny_bind (pyHash_key k key A s _ hk (by omega) ?_)
  unfold dictSetHashed
  try with_reducible refine wpAny_holding ?_
  refine wpAny_bind (find_mix (s := { s with toks := s.toks + k.draws }) (by omega) hk dk ho hd ⟨R.at_, R.key, R.one⟩ (fun z => ?_) (fun i z => ?_))
  · have fresh := mGet_none z
    refine wpAny_bind (wpAny_rule (wpAny_updateDictKeys (hz := by have e := R.size; omega) (s := { s with toks := s.toks + k.draws }) ho hd (h _ ⟨_, _, ep + 1, Heap.get?_update_self _ ho (Obj.isFreed_of_dict (Obj.data_mapDictKeys hd _)),
      hx.mapDictKeys _, Obj.data_mapDictKeys hd _, ?_⟩ (Heap.SameBut.update ..))))
    unfold mPut
    rw [fresh, if_neg (by decide)]
    refine ⟨by simp [R.at_, mEnt], fun r hr => ?_, ?_⟩
    · have st : ∀ b, b ≠ d → (s.heap.update d fun o => o.mapDictKeys (·.push ⟨k.hash w, key, v⟩)).get? b = s.heap.get? b := fun b hb => (Heap.SameBut.update ..).2 b hb
      rcases List.mem_append.mp hr with hr | hr
      · exact ⟨NestedIs.mut ho hd st (R.key r hr).1, (R.key r hr).2⟩
      · rw [List.mem_singleton.mp hr]
        exact ⟨NestedIs.mut ho hd st hk, dk⟩
    · rw [List.map_append, List.nodup_append]
      refine ⟨R.one, by simp, ?_⟩
      intro x hx y hy e
      obtain ⟨r, hr, rfl⟩ := List.mem_map.mp hx
      obtain ⟨i, hi⟩ := List.mem_iff_getElem?.mp hr
      simp at hy
      exact z i ⟨r, hi, e.trans hy⟩
  · obtain ⟨r, hr, e⟩ := z
    have there := mGet_some R.one hr e
    refine wpAny_bind (wpAny_rule (wpAny_bind (wpAny_updateDict (s := { s with toks := s.toks + k.draws }) ho hd (wpAny_point (h _ ⟨_, _, ep, Heap.get?_update_self _ ho (Obj.isFreed_of_dict (Obj.data_mapDict hd _)),
      hx.mapDict _, Obj.data_mapDict hd _, ?_⟩ (Heap.SameBut.update ..))))))
    unfold mPut
    rw [there, if_pos (show (some r).isSome = true from rfl)]
    have same : (xs.map fun r => if r.1 = k then (r.1, r.2.1, v) else r).map (·.1) = xs.map (·.1) := by
      rw [List.map_map]
      refine List.map_congr_left fun q _ => ?_
      show (if q.1 = k then (q.1, q.2.1, v) else q).1 = q.1
      split <;> rfl
    refine ⟨?_, fun q hq => ?_, by rw [same]; exact R.one⟩
    · apply List.ext_getElem?
      intro j
      rw [Array.getElem?_toList, Array.getElem?_modify, R.get j, List.getElem?_map, List.getElem?_map]
      cases hj : xs[j]? with
      | none => simp
      | some q =>
        by_cases hij : i = j
        · subst hij
          rw [hr] at hj
          cases hj
          rw [if_pos rfl]
          simp [mEnt, e]
        · have ne : q.1 ≠ k := fun z => hij (MxAt.uniq R.one ⟨r, hr, e⟩ ⟨q, hj, z⟩)
          rw [if_neg hij]
          simp [ne]
    · obtain ⟨q0, h0, rfl⟩ := List.mem_map.mp hq
      have st : ∀ b, b ≠ d → (s.heap.update d (Obj.mapDict fun x => x.modify i fun e => { e with val := v })).get? b = s.heap.get? b := fun b hb => (Heap.SameBut.update ..).2 b hb
      have z := R.key q0 h0
      split
      · exact ⟨NestedIs.mut ho hd st z.1, z.2⟩
      · exact ⟨NestedIs.mut ho hd st z.1, z.2⟩
end
end L2.Vf
/-! Dicts of mixed keys, as the hand layer reads them. -/
namespace L2.Vf
open PySem PySem.Spec PyProof.Rows
open Evl (Ex Ev EvT EvL EvA)
mutual
/-- the value is this key: a text, a whole number, a tuple of such -/
inductive KeyV (K : PySem.W.Frag) (H : Hp) : NestedKey → V → Prop
  | num (i : Int) : KeyV K H (.num i) (.int i)
  | text (x : Str) : KeyV K H (.text x) (.str x)
  | tup {a : Addr} {vs : List V} {ks : List NestedKey} : SqT K H a vs → KeyVs K H ks vs → KeyV K H (.tup ks) (.ref a)
  | non : KeyV K H .none .non
inductive KeyVs (K : PySem.W.Frag) (H : Hp) : List NestedKey → List V → Prop
  | nil : KeyVs K H [] []
  | cons {k : NestedKey} {v : V} {ks : List NestedKey} {vs : List V} : KeyV K H k v → KeyVs K H ks vs → KeyVs K H (k :: ks) (v :: vs)
end
mutual
theorem KeyV.to {K : PySem.W.Frag} {H H' : Hp} (e : ∀ {a : Addr} {xs : List V}, SqT K H a xs → SqT K H' a xs) : ∀ (k : NestedKey) (v : V), KeyV K H k v → KeyV K H' k v
  | .none, _, h => by cases h; exact .non
  | .num i, _, h => by cases h; exact .num i
  | .text x, _, h => by cases h; exact .text x
  | .tup ks, _, h => by
    cases h with
    | tup h1 h2 => exact .tup (e h1) (KeyVs.to e ks _ h2)
theorem KeyVs.to {K : PySem.W.Frag} {H H' : Hp} (e : ∀ {a : Addr} {xs : List V}, SqT K H a xs → SqT K H' a xs) : ∀ (ks : List NestedKey) (vs : List V), KeyVs K H ks vs → KeyVs K H' ks vs
  | [], _, h => by cases h; exact .nil
  | k :: ks, _, h => by
    cases h with
    | cons h1 h2 => exact .cons (KeyV.to e k _ h1) (KeyVs.to e ks _ h2)
end
theorem KeyV.mono {K : PySem.W.Frag} {H H' : Hp} (e : Ex H H') (k : NestedKey) (v : V) (h : KeyV K H k v) : KeyV K H' k v := KeyV.to (Evl.ex_t e) k v h
mutual
theorem KeyV.inj {K : PySem.W.Frag} {H : Hp} (u : ∀ {a : Addr} {xs ys : List V}, SqT K H a xs → SqT K H a ys → xs = ys) : ∀ (k j : NestedKey) (v : V), KeyV K H k v → KeyV K H j v → k = j
  | .none, j, _, h, g => by cases h; cases g; rfl
  | .num i, j, _, h, g => by cases h; cases g; rfl
  | .text x, j, _, h, g => by cases h; cases g; rfl
  | .tup ks, j, _, h, g => by
    cases h with
    | tup h1 h2 =>
      cases g with
      | tup g1 g2 =>
        obtain rfl := u h1 g1
        rw [KeyVs.inj u ks _ _ h2 g2]
theorem KeyVs.inj {K : PySem.W.Frag} {H : Hp} (u : ∀ {a : Addr} {xs ys : List V}, SqT K H a xs → SqT K H a ys → xs = ys) : ∀ (ks js : List NestedKey) (vs : List V), KeyVs K H ks vs → KeyVs K H js vs → ks = js
  | [], js, _, h, g => by cases h; cases g; rfl
  | k :: ks, js, _, h, g => by
    cases h with
    | cons h1 h2 =>
      cases g with
      | cons g1 g2 => rw [KeyV.inj u k _ _ h1 g1, KeyVs.inj u ks _ _ h2 g2]
end
/-- a key of a dict: such a key, or True or False -/
inductive KyV (K : PySem.W.Frag) (H : Hp) : NestedKey → V → Prop
  | key {k : NestedKey} {v : V} : KeyV K H k v → KyV K H k v
  | bl (b : Bool) : KyV K H (.num (if b = true then 1 else 0)) (.bl b)
instance {K : PySem.W.Frag} {H : Hp} {k : NestedKey} {v : V} : Coe (KeyV K H k v) (KyV K H k v) := ⟨.key⟩
theorem KyV.num {K : PySem.W.Frag} {H : Hp} (i : Int) : KyV K H (.num i) (.int i) := .key (.num i)
theorem KyV.text {K : PySem.W.Frag} {H : Hp} (x : Str) : KyV K H (.text x) (.str x) := .key (.text x)
theorem KyV.tup {K : PySem.W.Frag} {H : Hp} {a : Addr} {vs : List V} {ks : List NestedKey} (h : SqT K H a vs) (g : KeyVs K H ks vs) : KyV K H (.tup ks) (.ref a) := .key (.tup h g)
theorem KyV.non {K : PySem.W.Frag} {H : Hp} : KyV K H .none .non := .key .non
theorem KyV.to {K : PySem.W.Frag} {H H' : Hp} (e : ∀ {a : Addr} {xs : List V}, SqT K H a xs → SqT K H' a xs) (k : NestedKey) (v : V) (h : KyV K H k v) : KyV K H' k v := by
  cases h with
  | key h => exact .key (KeyV.to e k v h)
  | bl b => exact .bl b
theorem KyV.mono {K : PySem.W.Frag} {H H' : Hp} (e : Ex H H') (k : NestedKey) (v : V) (h : KyV K H k v) : KyV K H' k v := KyV.to (Evl.ex_t e) k v h
/-- a row, as it is tracked: the key, its value, what stands under it -/
abbrev Mv := NestedKey × V × V
/-- a tracked row and a row of the object -/
def RowR (p : Mv) (r : Mr) : Prop := p.1 = r.1 ∧ RelV p.2.1 r.2.1 ∧ RelV p.2.2 r.2.2
/-- at d: a dict of these rows -/
def mxo (d : Addr) (w : World) (ks : List Mv) : HO := .ext fun h => ∃ (o : Obj) (es : Array DictEntry) (ep : Nat) (xs : List Mr), h.get? d = some o ∧ o.ExactDict ∧ o.data = .dict es ep ∧ es.toList = xs.map (mEnt w) ∧ Paired RowR ks xs
/-- d is a dict of these rows, the keys all different -/
structure Mx (K : PySem.W.Frag) (H : Hp) (w : World) (d : Addr) (ks : List Mv) : Prop where
  obj : Rd H d (mxo d w ks)
  key : ∀ p ∈ ks, KyV K H p.1 p.2.1 ∧ p.1.depth ≤ 8
  one : (ks.map (·.1)).Nodup
  len : ks.length ≤ 1000
  sys : (d == sysModules) = false
theorem Mx.mono {K : PySem.W.Frag} {H H' : Hp} {w : World} {d : Addr} {ks : List Mv} (e : Ex H H') (m : Mx K H w d ks) : Mx K H' w d ks :=
  ⟨Evl.ex_rd e m.obj, fun p hp => ⟨KyV.mono e _ _ (m.key p hp).1, (m.key p hp).2⟩, m.one, m.len, m.sys⟩
/-- what stands under k; the rows once y stands there -/
def vM (ks : List Mv) (k : NestedKey) : Option V := (ks.find? fun p => decide (p.1 = k)).map (·.2.2)
def pM (ks : List Mv) (k : NestedKey) (kv y : V) : List Mv := if (vM ks k).isSome = true then ks.map (fun p => if p.1 = k then (p.1, p.2.1, y) else p) else ks ++ [(k, kv, y)]
theorem rows_find {ks : List Mv} {xs : List Mr} (h : Paired RowR ks xs) (k : NestedKey) : RelO (vM ks k) ((mGet xs k).map (·.2.2)) := by
  induction h with
  | nil => exact True.intro
  | @cons p r ps rs hp _ ih =>
    obtain ⟨e, _, h2⟩ := hp
    unfold vM mGet
    rw [List.find?_cons, List.find?_cons]
    by_cases z : p.1 = k
    · rw [decide_eq_true z, decide_eq_true (e ▸ z)]
      exact h2
    · rw [decide_eq_false z, decide_eq_false (e ▸ z)]
      exact ih
theorem rows_put {ks : List Mv} {xs : List Mr} (h : Paired RowR ks xs) (k : NestedKey) {kv y : V} {key v : Value} (r1 : RelV kv key) (r2 : RelV y v) : Paired RowR (pM ks k kv y) (mPut xs k key v) := by
  have same : (vM ks k).isSome = (mGet xs k).isSome := by
    have z := (rows_find h k).isSome_eq
    rw [z, Option.isSome_map]
  unfold pM mPut
  rw [← same]
  split
  · clear same
    rename_i g
    clear g
    induction h with
    | nil => exact .nil
    | @cons p r ps rs hp _ ih =>
      refine .cons ?_ ih
      obtain ⟨e, h1, h2⟩ := hp
      dsimp only
      by_cases z : p.1 = k
      · rw [if_pos z, if_pos (e ▸ z)]
        exact ⟨e, h1, r2⟩
      · rw [if_neg z, if_neg (e ▸ z)]
        exact ⟨e, h1, h2⟩
  · exact Paired.snoc h ⟨rfl, r1, r2⟩
section
variable {X : Cx} {pins : List (Addr × Obj)} {σ : St} {H : Hp} {s : Shared} {d : Addr} {ks : List Mv} {k : NestedKey} {y v : V} {u r : Value} {A : Around} {E : Value → Shared → Prop}
mutual
theorem KeyV.is (I : Inv X pins σ H s) : ∀ (k : NestedKey) (v : V) (u : Value), KeyV X.K H k v → RelV v u → NestedIs s.heap k u
  | .none, _, _, h, g => by
    cases h
    cases g
    exact .none
  | .num i, _, _, h, g => by
    cases h
    obtain ⟨t, rfl⟩ := g
    exact .int i t
  | .text x, _, _, h, g => by
    cases h
    obtain ⟨t, rfl⟩ := g
    exact .text x t
  | .tup ks, _, _, h, g => by
    cases h with
    | tup h1 h2 =>
      cases g
      obtain ⟨its, rv, ⟨o, ho, hc, n, hd⟩, _⟩ := I.tuple h1
      exact .tup ho hc hd (KeyVs.is I ks _ _ h2 rv)
theorem KeyVs.is (I : Inv X pins σ H s) : ∀ (ks : List NestedKey) (vs : List V) (us : List Value), KeyVs X.K H ks vs → Vals vs us → NestedAll s.heap ks us
  | [], _, _, h, g => by
    cases h
    cases g
    exact .nil
  | k :: ks, _, _, h, g => by
    cases h with
    | cons h1 h2 =>
      cases g with
      | cons g1 g2 => exact .cons (KeyV.is I k _ _ h1 g1) (KeyVs.is I ks _ _ h2 g2)
end
theorem KyV.is (I : Inv X pins σ H s) (k : NestedKey) (v : V) (u : Value) (h : KyV X.K H k v) (g : RelV v u) : NestedIs s.heap k u := by
  cases h with
  | key h => exact KeyV.is I k v u h g
  | bl b =>
    cases g
    exact .bool rfl
theorem rows_mem {ks : List Mv} {xs : List Mr} (h : Paired RowR ks xs) : ∀ r ∈ xs, ∃ p ∈ ks, RowR p r := by
  induction h with
  | nil => intro r z; cases z
  | @cons p r ps rs hp _ ih =>
    intro q hq
    rcases List.mem_cons.mp hq with rfl | z
    · exact ⟨p, List.mem_cons_self, hp⟩
    · obtain ⟨p', h1, h2⟩ := ih q z
      exact ⟨p', List.mem_cons_of_mem _ h1, h2⟩
theorem rows_keys {ks : List Mv} {xs : List Mr} (h : Paired RowR ks xs) : xs.map (·.1) = ks.map (·.1) := by
  induction h with
  | nil => rfl
  | @cons p r ps rs hp _ ih => rw [List.map_cons, List.map_cons, ih, hp.1]
theorem Mx.at_ (I : Inv X pins σ H s) (m : Mx X.K H X.w d ks) : ∃ xs, MixAt X.w s.heap d xs ∧ Paired RowR ks xs := by
  obtain ⟨⟨o, es, ep, xs, ho, hx, hd, he, hp⟩, _, _⟩ := (m.obj.ok I.hok : ObjOk _ _ _ _ _ (mxo d X.w ks))
  refine ⟨xs, ⟨o, es, ep, ho, hx, hd, he, fun r hr => ?_, by rw [rows_keys hp]; exact m.one⟩, hp⟩
  obtain ⟨p, h1, h2⟩ := rows_mem hp r hr
  obtain ⟨h3, h4⟩ := m.key p h1
  rw [h2.1] at h3 h4
  exact ⟨KyV.is I _ _ _ h3 h2.2.1, h4⟩
/-- d[y], there -/
theorem m_getItem {Q : Value → Shared → Prop} (hu : A.units + 40 < cLine) (I : Inv X pins σ H s) (m : Mx X.K H X.w d ks) (hk : KyV X.K H k y) (dk : k.depth ≤ 8) (ry : RelV y u) (l : vM ks k = some v)
    (h : ∀ w' s', Inv X pins σ H s' → RelV v w' → Q w' s') : wpAny (model X.prog X.w) A (getItem (.ref d) u) Q E s := by
  obtain ⟨xs, M, hp⟩ := m.at_ I
  obtain ⟨w', hw, rw'⟩ := RelO.some_of (v := v) (o := (mGet xs k).map (·.2.2)) (by rw [← l]; exact rows_find hp k)
  unfold getItem
  try with_reducible refine wpAny_holding ?_
  refine wpAny_bind (wpAny_sequenceKey M.typeIs (by decide) ?_)
  refine wpAny_bind (wpAny_callSpecial?_slot (name := Str.ofString "__getitem__") M.typeIs slot_dict_getitem
    (wpAny_call_entry slot_dict_getitem M.typeIs entry_dict_getitem ?_ (args_dict_getitem _ _)))
  show wpAny _ _ (dictGet d u >>= _) _ _ s
  refine wpAny_bind (get_mix (by show A.units + 1 + 16 < _; omega) (KyV.is I _ _ _ hk ry) dk M ?_)
  rw [hw]
  exact wpAny_pure ⟨w', rfl, wpAny_pure (h w' _ (I.tok _) rw')⟩
/-- y in d -/
theorem m_in {Q : Value → Shared → Prop} (hu : A.units + 40 < cLine) (I : Inv X pins σ H s) (m : Mx X.K H X.w d ks) (hk : KyV X.K H k y) (dk : k.depth ≤ 8) (ry : RelV y u)
    (h : ∀ s', Inv X pins σ H s' → Q (.bool (vM ks k).isSome) s') : wpAny (model X.prog X.w) A (compareOp .In u (.ref d)) Q E s := by
  obtain ⟨xs, M, hp⟩ := m.at_ I
  have same := (rows_find hp k).isSome_eq
  show wpAny _ _ (do return .bool (← contains (.ref d) u)) Q E s
  refine wpAny_bind ?_
  unfold contains
  try with_reducible refine wpAny_holding ?_
  refine wpAny_bind (wpAny_specialOf M.typeIs slot_dict_contains.lookup ?_)
  show wpAny _ _ (if (some (Value.builtin "dict.__contains__") == some Value.none) = true then _ else _) _ E s
  rw [if_neg (by rw [beq_builtin_none]; exact Bool.false_ne_true)]
  refine wpAny_bind (wpAny_callSpecialUnlessNone?_slot (name := Str.ofString "__contains__") M.typeIs slot_dict_contains
    (wpAny_call_entry slot_dict_contains M.typeIs entry_dict_contains ?_ (args_dict_contains _ _)))
  show wpAny _ _ (dictGet d u >>= _) _ _ s
  refine wpAny_bind (get_mix (by show A.units + 1 + 16 < _; omega) (KyV.is I _ _ _ hk ry) dk M ?_)
  cases hf : mGet xs k with
  | some r =>
    rw [hf] at same
    have z := h { s with toks := s.toks + k.draws } (I.tok _)
    rw [same] at z
    exact wpAny_pure ⟨_, rfl, wpAny_truthy_bool (wpAny_pure z)⟩
  | none =>
    rw [hf] at same
    have z := h { s with toks := s.toks + k.draws } (I.tok _)
    rw [same] at z
    show wpAny _ _ (Builtin.Dict.pendingKey? d u >>= _) _ _ _
    exact wpAny_bind (wpAny_pendingKey_other m.sys (wpAny_pure ⟨_, rfl, wpAny_truthy_bool (wpAny_pure z)⟩))
/-- the dict after the store -/
theorem pM_keys {ks : List Mv} {k : NestedKey} {kv y : V} : (pM ks k kv y).map (·.1) = if (vM ks k).isSome = true then ks.map (·.1) else ks.map (·.1) ++ [k] := by
  unfold pM
  split
  · rw [List.map_map]
    refine List.map_congr_left fun q _ => ?_
    show (if q.1 = k then (q.1, q.2.1, y) else q).1 = q.1
    split <;> rfl
  · simp
theorem vM_none {ks : List Mv} {k : NestedKey} (h : (vM ks k).isSome ≠ true) : k ∉ ks.map (·.1) := fun z => by
  obtain ⟨p, hp, e⟩ := List.mem_map.mp z
  refine h ?_
  unfold vM
  rw [Option.isSome_map, List.find?_isSome]
  exact ⟨p, hp, by simp [e]⟩
theorem pM_mem {ks : List Mv} {k : NestedKey} {kv y : V} {p : Mv} (h : p ∈ pM ks k kv y) : (∃ q ∈ ks, q.1 = p.1 ∧ q.2.1 = p.2.1) ∨ (p.1 = k ∧ p.2.1 = kv) := by
  unfold pM at h
  split at h
  · obtain ⟨q, hq, rfl⟩ := List.mem_map.mp h
    refine .inl ⟨q, hq, ?_⟩
    split <;> exact ⟨rfl, rfl⟩
  · rcases List.mem_append.mp h with z | z
    · exact .inl ⟨p, z, rfl, rfl⟩
    · rw [List.mem_singleton.mp z]
      exact .inr ⟨rfl, rfl⟩
theorem pM_len {ks : List Mv} {k : NestedKey} {kv y : V} : (pM ks k kv y).length ≤ ks.length + 1 := by
  unfold pM
  split
  · rw [List.length_map]
    omega
  · simp
/-- tuples stand while a locked dict is unlocked -/
theorem off_frz {K : PySem.W.Frag} {H : Hp} {d : Addr} {φ : Heap → Prop} {od : Obj} {ob : HO} (hd : H d = some (.frz od (.ext φ))) {a : Addr} {xs : List V} (h : SqT K H a xs) : SqT K (upd H d ob) a xs := by
  rcases h with (h | ⟨o, h⟩) | h
  · refine .inl (.inl ?_)
    rw [upd_ne (ne_of h hd (by intro z; cases z))]
    exact h
  · refine .inl (.inr ⟨o, ?_⟩)
    rw [upd_ne (ne_of h hd (by intro z; cases z))]
    exact h
  · exact .inr h
/-- tuples stand while a dict's object is another -/
theorem off_ext {K : PySem.W.Frag} {H : Hp} {d : Addr} {φ : Heap → Prop} {ob : HO} (hd : H d = some (.ext φ)) {a : Addr} {xs : List V} (h : SqT K H a xs) : SqT K (upd H d ob) a xs := by
  rcases h with (h | ⟨o, h⟩) | h
  · refine .inl (.inl ?_)
    rw [upd_ne (ne_of h hd (by intro z; cases z))]
    exact h
  · refine .inl (.inr ⟨o, ?_⟩)
    rw [upd_ne (ne_of h hd (by intro z; cases z))]
    exact h
  · exact .inr h
theorem Mx.put {K : PySem.W.Frag} {H : Hp} {w : World} (m : Mx K H w d ks) (ow : H d = some (mxo d w ks)) (hk : KyV K H k y) (dk : k.depth ≤ 8) (hl : ks.length < 1000) : Mx K (upd H d (mxo d w (pM ks k y v))) w d (pM ks k y v) := by
  have off : ∀ {a : Addr} {xs : List V}, SqT K H a xs → SqT K (upd H d (mxo d w (pM ks k y v))) a xs := fun h => off_ext ow h
  refine ⟨.inl upd_same, fun p hp => ?_, ?_, ?_, m.sys⟩
  · rcases pM_mem hp with ⟨q, hq, e1, e2⟩ | ⟨e1, e2⟩
    · obtain ⟨h1, h2⟩ := m.key q hq
      rw [← e1, ← e2]
      exact ⟨KyV.to off _ _ h1, h2⟩
    · rw [e1, e2]
      exact ⟨KyV.to off _ _ hk, dk⟩
  · rw [pM_keys]
    split
    · exact m.one
    · rename_i g
      rw [List.nodup_append]
      refine ⟨m.one, by simp, fun x hx z hz e => ?_⟩
      rw [e, List.mem_singleton.mp hz] at hx
      exact vM_none g hx
  · have := pM_len (ks := ks) (k := k) (kv := y) (y := v)
    omega
/-- locked, unlocked -/
theorem Mx.lock {K : PySem.W.Frag} {H : Hp} {w : World} {od : Obj} (m : Mx K H w d ks) (ow : H d = some (mxo d w ks)) : Mx K (upd H d (.frz od (mxo d w ks))) w d ks :=
  ⟨.inr ⟨od, upd_same⟩, fun p hp => ⟨KyV.to (fun g => off_ext ow g) _ _ (m.key p hp).1, (m.key p hp).2⟩, m.one, m.len, m.sys⟩
theorem Mx.unlock {K : PySem.W.Frag} {H : Hp} {w : World} {od : Obj} (m : Mx K H w d ks) (ow : H d = some (.frz od (mxo d w ks))) : Mx K (upd H d (mxo d w ks)) w d ks :=
  ⟨.inl upd_same, fun p hp => ⟨KyV.to (fun g => off_frz ow g) _ _ (m.key p hp).1, (m.key p hp).2⟩, m.one, m.len, m.sys⟩
theorem m_setItem {Q : Unit → Shared → Prop} (hu : A.units + 40 < cLine) (I : Inv X pins σ H s) (m : Mx X.K H X.w d ks) (ow : H d = some (mxo d X.w ks)) (hk : KyV X.K H k y) (dk : k.depth ≤ 8) (ry : RelV y u) (rv : RelV v r) (hl : ks.length < 1000)
    (h : ∀ s', Inv X pins σ (upd H d (mxo d X.w (pM ks k y v))) s' → Q () s') : wpAny (model X.prog X.w) A (setItem (.ref d) u r) Q E s := by
  obtain ⟨xs, M, hp⟩ := m.at_ I
  unfold setItem
  try with_reducible refine wpAny_holding ?_
  refine wpAny_bind (wpAny_sequenceKey M.typeIs (by decide) ?_)
  refine wpAny_bind (wpAny_callSpecial?_slot (name := Str.ofString "__setitem__") M.typeIs slot_dict_setitem
    (wpAny_call_entry slot_dict_setitem M.typeIs entry_dict_setitem ?_ (args_dict_setitem _ _ _)))
  show wpAny _ _ (Builtin.Dict.notOrdered "__setitem__" ⟨[.ref d, u, r], []⟩ >>= _) _ _ s
  refine wpAny_bind (wpAny_notOrdered_dict M.typeIs ?_)
  show wpAny _ _ (dictSet d u r >>= _) _ _ s
  have hz : xs.length ≤ sizeLine := by
    rw [← Paired.length hp]
    exact Nat.le_of_lt (small1000 m.len)
  refine wpAny_bind (set_mix (by show A.units + 1 + 16 < _; omega) (KyV.is I _ _ _ hk ry) dk M hz fun h' M' hs => wpAny_pure ⟨.none, rfl, wpAny_pure (h _ ?_)⟩)
  obtain ⟨o, es, ep, ho, hx, hd, R⟩ := M'
  refine I.write (x := d) (e := d) (by rw [ow]; exact True.intro) (.inl rfl) (fun b q hb z => (hs.2 b hb).trans z) ⟨o, ho⟩ ?_
  refine ⟨⟨o, es, ep, _, ho, hx, hd, R.at_, rows_put hp k ry rv⟩, ⟨o, ho⟩, ?_⟩
  rintro h1 h2 ⟨o1, e1, p1, x1, a1, a2, a3, a4, a5⟩ st
  exact ⟨o1, e1, p1, x1, st _ a1, a2, a3, a4, a5⟩
theorem Mx.noDict (I : Inv X pins σ H s) (m : Mx X.K H X.w d ks) : s.TypeIs (.ref d) "dict" ∧ ∀ b, Value.ref d = .ref b → ∃ ob, s.heap.get? b = some ob ∧ ob.dict = none := by
  obtain ⟨xs, M, _⟩ := m.at_ I
  refine ⟨M.typeIs, fun b q => ?_⟩
  cases q
  obtain ⟨o, es, ep, ho, hx, _⟩ := M
  exact ⟨o, ho, hx.2.1⟩
end
theorem meetsM_get {prog : Program} {w : World} (d : Addr) (u dflt : Value) (hd : (d == sysModules) = false) : MeetsIn prog w (Builtin.«dict.get» ⟨[.ref d, u, dflt], []⟩)
    (fun A R s => A.units + 40 < cLine ∧ ∃ k xs, NestedIs s.heap k u ∧ k.depth ≤ 8 ∧ MixAt w s.heap d xs ∧ R (.ok (.ret (((mGet xs k).map (·.2.2)).getD dflt))) { s with toks := s.toks + k.draws }) :=
  .of_wp fun A R s ⟨hu, k, xs, hk, dk, M, h⟩ => by
    show wpAny _ _ (dictGet d u >>= _) _ _ s
    refine wpAny_bind (get_mix (by show A.units + 1 + 16 < _; omega) hk dk M ?_)
    cases hf : (mGet xs k).map (·.2.2) with
    | some z =>
      rw [hf] at h
      exact wpAny_pure ⟨z, rfl, h⟩
    | none =>
      rw [hf] at h
      show wpAny _ _ (Builtin.Dict.missed d u >>= _) _ _ _
      exact wpAny_bind (wpAny_missed_other hd (wpAny_pure ⟨dflt, rfl, h⟩))
/-! ### readings and rules -/
/-- d[y], y in d, d.get(y, x), d[y] = v of a dict of mixed keys -/
def rMIn (K : PySem.W.Frag) (w : World) : R2 := fun y x H Q => ∃ (d : Addr) (ks : List Mv) (k : NestedKey), x = .ref d ∧ Mx K H w d ks ∧ KyV K H k y ∧ k.depth ≤ 8 ∧ Q (.bl (vM ks k).isSome) H
def tMGet (K : PySem.W.Frag) (w : World) (td ty : TE) : TE := fun σ H Q => td σ H fun x H1 => ty σ H1 fun y H2 => ∃ (d : Addr) (ks : List Mv) (k : NestedKey) (v : V), x = .ref d ∧ Mx K H2 w d ks ∧ KyV K H2 k y ∧ k.depth ≤ 8 ∧ vM ks k = some v ∧ Q v H2
def tMGet2 (K : PySem.W.Frag) (w : World) (td ty tx : TE) : TE := fun σ H Q => td σ H fun x H1 => ∃ (d : Addr) (ks : List Mv), x = .ref d ∧ Mx K H1 w d ks ∧ ty σ H1 fun y H2 => tx σ H2 fun z H3 => ∃ (ks : List Mv) (k : NestedKey), Mx K H3 w d ks ∧ KyV K H3 k y ∧ k.depth ≤ 8 ∧ Q ((vM ks k).getD z) H3
def sMPut (K : PySem.W.Frag) (w : World) (td ty tv : TE) : TS := fun D σ H => tv σ H fun v H1 => td σ H1 fun x H2 => ty σ H2 fun y H3 => ∃ (d : Addr) (ks : List Mv) (k : NestedKey), x = .ref d ∧ Mx K H3 w d ks ∧ H3 d = some (mxo d w ks) ∧ KyV K H3 k y ∧ k.depth ≤ 8 ∧ ks.length < 1000 ∧
  D.nx σ (upd H3 d (mxo d w (pM ks k y v)))
section
variable {X : Cx} {o i e f value : Expr} {pos pos' apos cpos : Pos} {td ty tv tx : TE}
theorem op_inM {K : PySem.W.Frag} {w : World} (hu : X.A.units + 40 < cLine) (hK : X.K = K := by rfl) (hw : X.w = w := by rfl) : OpR X (compareOp .In) (rMIn K w) := by
  subst hK hw
  intro pins s σ H x y v u Q I rx ry h
  obtain ⟨d, ks, k, rfl, m, hk, dk, q⟩ := h
  obtain rfl := ry
  exact m_in hu I m hk dk rx fun s' I' => ⟨.bl _, H, I', rfl, q⟩
theorem pe_mget {K : PySem.W.Frag} {w : World} (hu : X.A.units + 40 < cLine) (ho : PE X o td) (hi : PE X i ty) (hs : NoSl i) (hK : X.K = K := by rfl) (hw : X.w = w := by rfl) : PE X (.Subscript o i pos) (tMGet K w td ty) := by
  subst hK hw
  refine ⟨fun pins s σ H Q I h => ?_⟩
  refine subD_of PySem.F.slot_dict_getitem.lookup hs (thn (ho.run pins s σ H _ I h) fun u s1 ⟨x, H1, I1, rx, q1⟩ => thn (hi.run pins s1 σ H1 _ I1 q1) fun iv s2 ⟨y, H2, I2, ry, d, ks, k, v, ex, m, hk, dk, l, q2⟩ => ?_)
  subst ex
  obtain rfl : u = Value.ref d := rx
  exact ⟨(m.noDict I2).1, m_getItem hu I2 m hk dk ry l fun w' s3 I3 rw' => ⟨v, H2, I3, rw', q2⟩⟩
theorem ps_mput {K : PySem.W.Frag} {w : World} (hu : X.A.units + 40 < cLine) (ho : PE X o td) (hi : PE X i ty) (hv : PE X value tv) (hs : swapsWith value (some (.Subscript o i pos')) pos.line X.env = pure false) (hK : X.K = K := by rfl) (hw : X.w = w := by rfl) :
    PS X (.Assign [.Subscript o i pos'] value pos) (sMPut K w td ty tv) := by
  subst hK hw
  refine ⟨fun pins s σ H D I h => ?_⟩
  refine wpAny_Assign_Subscript (thn (hv.run pins s σ H _ I h) fun r s1 ⟨v, H1, I1, rv, q1⟩ => thn (ho.run pins s1 σ H1 _ I1 q1) fun u s2 ⟨x, H2, I2, rx, q2⟩ => thn (hi.run pins s2 σ H2 _ I2 q2)
    fun iv s3 ⟨y, H3, I3, ry, d, ks, k, ex, m, ow, hk, dk, hl, q3⟩ => ?_) hs
  subst ex
  obtain rfl : u = Value.ref d := rx
  exact m_setItem hu I3 m ow hk dk ry rv hl fun s4 I4 => ⟨σ, _, I4, q3⟩
theorem pe_mget2 {K : PySem.W.Frag} {w : World} (hu : X.A.units + 40 < cLine) (ho : PE X o td) (he : PE X e ty) (hf : PE X f tx) (m : M2 X o "get" apos e f cpos) (hK : X.K = K := by rfl) (hw : X.w = w := by rfl) :
    PE X (.Call (.Attribute o "get" apos) [e, f] [] cpos) (tMGet2 K w td ty tx) := by
  subst hK hw
  refine ⟨fun pins s σ H Q I h => ?_⟩
  refine wpAny_Call_method m.base m.few m.line PySem.F.plainAttrs_dict PySem.F.slot_dict_get PySem.F.type_dict_get (thn (ho.run pins s σ H _ I h) fun u s1 ⟨x, H1, I1, rx, d, ks0, ex, m0, q1⟩ => ?_)
  subst ex
  obtain rfl : u = Value.ref d := rx
  obtain ⟨t1, t2⟩ := m0.noDict I1
  refine ⟨t1, t2, ?_⟩
  rw [m.trees]
  refine Calls.callWith_builtin rfl (Calls.evalArgs_plain (Calls.spliced_cons (thn (he.run pins s1 σ H1 _ I1 q1) fun iv s2 ⟨y, H2, I2, ry, q2⟩ =>
    Calls.spliced_cons (thn (hf.run pins s2 σ H2 _ I2 q2) fun fv s3 ⟨z, H3, I3, rz, ks, k, mm, hk, dk, q3⟩ => Calls.spliced_nil ?_))))
  obtain ⟨xs, M, hp⟩ := mm.at_ I3
  refine call_meetsIn PySem.F.slot_dict_get M.typeIs PySem.F.entry_dict_get (PySem.F.args_dict_get_3 _ _ _) (meetsM_get d iv fv mm.sys) ⟨hu, k, xs, KyV.is I3 _ _ _ hk ry, dk, M, ?_⟩
  exact ⟨_, H3, I3.tok _, (rows_find hp k).getD rz, q3⟩
end
end L2.Vf
/-! Dicts of mixed keys: new ones, displays. -/
namespace L2.Vf
open PySem PySem.Spec PyProof.Rows
open Evl (Ex Ev EvT EvL EvA)
def mPuts (acc rows : List Mr) : List Mr := rows.foldl (fun acc r => mPut acc r.1 r.2.1 r.2.2) acc
def mergeM (acc ks : List Mv) : List Mv := ks.foldl (fun acc r => pM acc r.1 r.2.1 r.2.2) acc
theorem mPut_len (acc : List Mr) (k : NestedKey) (a b : Value) : (mPut acc k a b).length ≤ acc.length + 1 := by
  unfold mPut
  split
  · rw [List.length_map]
    omega
  · simp
theorem rows_puts : ∀ {ks : List Mv} {rows : List Mr} {acc : List Mv} {xs : List Mr}, Paired RowR ks rows → Paired RowR acc xs → Paired RowR (mergeM acc ks) (mPuts xs rows) := by
  intro ks rows acc xs h
  induction h generalizing acc xs with
  | nil => exact fun g => g
  | @cons p r ps rs hp _ ih =>
    intro g
    obtain ⟨e, h1, h2⟩ := hp
    have z := rows_put g p.1 h1 h2
    show Paired RowR (mergeM (pM acc p.1 p.2.1 p.2.2) ps) (mPuts (mPut xs r.1 r.2.1 r.2.2) rs)
    rw [← e]
    exact ih z
theorem mergeM_len : ∀ (ks acc : List Mv), (mergeM acc ks).length ≤ acc.length + ks.length
  | [], acc => by show acc.length ≤ acc.length + 0; omega
  | p :: r, acc => by
    have h1 := mergeM_len r (pM acc p.1 p.2.1 p.2.2)
    have h2 := pM_len (ks := acc) (k := p.1) (kv := p.2.1) (y := p.2.2)
    show (mergeM (pM acc p.1 p.2.1 p.2.2) r).length ≤ _
    rw [List.length_cons]
    omega
section
variable {prog : Program} {w : World} {A : Around} {E : Value → Shared → Prop}
theorem storeAll_mix {d : Addr} (hu : A.units + 16 < cLine) : ∀ (rows acc : List Mr) (s : Shared) (Q : PUnit → Shared → Prop), (∀ r ∈ rows, NestedIs s.heap r.1 r.2.1 ∧ r.1.depth ≤ 8) → MixAt w s.heap d acc → acc.length + rows.length ≤ sizeLine →
    (∀ h' tk, MixAt w h' d (mPuts acc rows) → Heap.SameBut d s.heap h' → Q PUnit.unit { s with heap := h', toks := tk }) →
    wpAny (model prog w) A (forIn (rows.map fun r => (r.2.1, r.2.2)) PUnit.unit fun (x : Value × Value) (_ : PUnit) => (do dictSet d x.1 x.2; pure (ForInStep.yield PUnit.unit) : Sem (ForInStep PUnit))) Q E s
  | [], acc, s, Q, _, M, _, hQ => by
    rw [List.map_nil, List.forIn_nil]
    exact wpAny_pure (hQ s.heap s.toks M (Heap.SameBut.refl _ _))
  | r :: rows, acc, s, Q, hk, M, hz, hQ => by
    rw [List.length_cons] at hz
    rw [List.map_cons, List.forIn_cons]
    obtain ⟨h1, h2⟩ := hk r List.mem_cons_self
    refine wpAny_bind (wpAny_bind (set_mix hu h1 h2 M (by omega) fun h' M' hs => wpAny_pure ?_))
    have le : (mPut acc r.1 (r.2.1, r.2.2).1 (r.2.1, r.2.2).2).length ≤ acc.length + 1 := mPut_len acc r.1 r.2.1 r.2.2
    obtain ⟨o, es, ep, ho, _, hd, _⟩ := M
    exact storeAll_mix hu rows _ _ Q (fun q hq => ⟨NestedIs.mut ho hd (fun b hb => hs.2 b hb) (hk q (List.mem_cons_of_mem _ hq)).1, (hk q (List.mem_cons_of_mem _ hq)).2⟩) M' (by omega)
      fun h'' tk M'' hs' => hQ h'' tk M'' (hs.trans hs')
theorem subDict_mix {s : Shared} {pairs : List (Sem Value × Sem Value)} {Q : Addr → Shared → Prop} (hu : A.units + 16 < cLine) (hlen : pairs.length ≤ 15)
    (h : wpAny (model prog w) A (evalPairs pairs) (fun vs s₁ => ∃ rows, vs = rows.map (fun r => (r.2.1, r.2.2)) ∧ (∀ r ∈ rows, NestedIs s₁.heap r.1 r.2.1 ∧ r.1.depth ≤ 8) ∧ MixAt w s₁.heap s.heap.objs.size [] ∧
      ∀ h' tk, MixAt w h' s.heap.objs.size (mPuts [] rows) → Heap.SameBut s.heap.objs.size s₁.heap h' → Q s.heap.objs.size { s₁ with heap := h', toks := tk }) E
      { s with heap := s.heap.push { cls := .type "dict", data := .dict #[] } }) : wpAny (model prog w) A (subDict pairs) Q E s := by
  unfold subDict
  refine wpAny_bind (wpAny_alloc (wpAny_bind (wpAny_holding ?_)))
  rw [if_pos hlen]
  refine wpAny_bind (wpAny_mono (wpAny_evalPairs_len h) (fun vs s1 hh => ?_) fun _ _ e => e)
  obtain ⟨hvl, rows, rfl, hk, M, hQ⟩ := hh
  rw [List.length_map] at hvl
  refine wpAny_holding ?_
  refine wpAny_bind (storeAll_mix hu rows [] s1 _ hk M ?_ fun h' tk M' hs => wpAny_pure (wpAny_pure (hQ h' tk M' hs)))
  rw [sizeLine_eq, List.length_nil]
  omega
end
theorem mxo_ok {P : Program} {w : World} {H : Hp} {h : Heap} {d : Addr} {ks : List Mv} {xs : List Mr} (M : MixAt w h d xs) (r : Paired RowR ks xs) : ObjOk P w H h d (mxo d w ks) := by
  obtain ⟨o, es, ep, ho, hx, hd, R⟩ := M
  refine ⟨⟨o, es, ep, _, ho, hx, hd, R.at_, r⟩, ⟨o, ho⟩, ?_⟩
  rintro h1 h2 ⟨o1, e1, p1, x1, a1, a2, a3, a4, a5⟩ st
  exact ⟨o1, e1, p1, x1, st _ a1, a2, a3, a4, a5⟩
theorem mix_new (w : World) (h : Heap) : MixAt w (h.push { cls := .type "dict", data := .dict #[] }) h.objs.size [] :=
  ⟨_, #[], 0, Heap.get?_push_size _ rfl, ⟨rfl, rfl, rfl⟩, rfl, rfl, (fun r z => by cases z), List.nodup_nil⟩
/-- {} -/
def tMNew (w : World) : TE := fun _ H Q => ∀ p, H p = none → (p == sysModules) = false → Q (.ref p) (upd H p (mxo p w []))
/-- {k: v, ..} -/
def tMDisp (K : PySem.W.Frag) (w : World) (trs : List (TE × TE)) : TE := fun σ H Q => ∀ p, H p = none → (p == sysModules) = false → tPairs trs σ (upd H p (mxo p w [])) fun ps H2 =>
  H2 p = some (mxo p w []) ∧ ∃ ks : List Mv, ps = ks.map (fun r => (r.2.1, r.2.2)) ∧ ks.length ≤ 15 ∧ (∀ r ∈ ks, KyV K H2 r.1 r.2.1 ∧ r.1.depth ≤ 8) ∧ Q (.ref p) (upd H2 p (mxo p w (mergeM [] ks)))
theorem Mx.new {K : PySem.W.Frag} {H : Hp} {w : World} {p : Addr} (hs : (p == sysModules) = false) : Mx K (upd H p (mxo p w [])) w p [] :=
  ⟨.inl upd_same, (fun r z => by cases z), List.nodup_nil, Nat.zero_le _, hs⟩
/-- the dict of a display -/
theorem Mx.disp {K : PySem.W.Frag} {w : World} {p : Addr} (hs : (p == sysModules) = false) : ∀ (ks acc : List Mv) {H : Hp}, Mx K H w p acc → H p = some (mxo p w acc) → (∀ r ∈ ks, KyV K H r.1 r.2.1 ∧ r.1.depth ≤ 8) → acc.length + ks.length ≤ 1000 →
    Mx K (upd H p (mxo p w (mergeM acc ks))) w p (mergeM acc ks)
  | [], acc, H, m, ow, _, _ => by
    have e : upd H p (mxo p w acc) = H := by
      funext c
      by_cases hc : c = p
      · rw [hc, upd_same, ow]
      · rw [upd_ne hc]
    show Mx K (upd H p (mxo p w acc)) w p acc
    rw [e]
    exact m
  | r :: ks, acc, H, m, ow, hk, hl => by
    rw [List.length_cons] at hl
    obtain ⟨h1, h2⟩ := hk r List.mem_cons_self
    have m1 := m.put (v := r.2.2) ow h1 h2 (by omega)
    have le := pM_len (ks := acc) (k := r.1) (kv := r.2.1) (y := r.2.2)
    have z := Mx.disp hs ks (pM acc r.1 r.2.1 r.2.2) m1 upd_same (fun q hq => ⟨KyV.to (fun g => off_ext ow g) _ _ (hk q (List.mem_cons_of_mem _ hq)).1, (hk q (List.mem_cons_of_mem _ hq)).2⟩) (by omega)
    have e : ∀ ob, upd (upd H p (mxo p w (pM acc r.1 r.2.1 r.2.2))) p ob = upd H p ob := fun ob => by
      funext c
      by_cases hc : c = p
      · rw [hc, upd_same, upd_same]
      · rw [upd_ne hc, upd_ne hc, upd_ne hc]
    rw [e] at z
    exact z
section
variable {X : Cx} {pos : Pos} {K : PySem.W.Frag} {w : World}
theorem pe_mnew (hw : X.w = w := by rfl) : PE X (.Dict [] [] pos) (tMNew w) := by
  subst hw
  refine ⟨fun pins s σ H Q I h => ?_⟩
  refine wpAny_Dict_empty ⟨.ref s.heap.objs.size, _, I.laid (a := s.heap.objs.size) (o := mxo s.heap.objs.size X.w []) (t' := s.toks) (fun _ _ q => Heap.get?_push_of_some _ q) (Nat.le_refl _) (mxo_ok (mix_new X.w s.heap) .nil), rfl, ?_⟩
  refine h _ (I.hok.fresh (Nat.le_refl _)) ?_
  rw [beq_eq_false_iff_ne]
  exact Nat.ne_of_gt I.big
theorem pe_mdisp {keys : List (Option Expr)} {values : List Expr} {trs : List (TE × TE)} (hu : X.A.units + 40 < cLine) (h : PPs X pos keys values trs) (hall : keys.all (·.isSome) = true) (hl : keys.length = values.length) (h0 : keys ≠ [])
    (h15 : keys.length ≤ 15) (hK : X.K = K := by rfl) (hw : X.w = w := by rfl) : PE X (.Dict keys values pos) (tMDisp K w trs) := by
  subst hK hw
  refine ⟨fun pins s σ H Q I q => ?_⟩
  have hn := I.hok.fresh (Nat.le_refl s.heap.objs.size)
  have ns : (s.heap.objs.size == sysModules) = false := by
    rw [beq_eq_false_iff_ne]
    exact Nat.ne_of_gt I.big
  have I1 := I.laid (a := s.heap.objs.size) (o := mxo s.heap.objs.size X.w []) (h' := s.heap.push { cls := .type "dict", data := .dict #[] }) (t' := s.toks) (fun _ _ q => Heap.get?_push_of_some _ q) (Nat.le_refl _) (mxo_ok (mix_new X.w s.heap) .nil)
  have hlen := pairTrees_length keys values X.env pos hall hl
  rw [arm_eval_Dict, zip_pairTrees keys values X.env pos hall hl, dictDisplay_pairs _ (fun e => h0 (by rw [e] at hlen; exact List.length_eq_zero_iff.mp hlen.symm)) (by rw [hlen]; omega)]
  refine wpAny_bind (wpAny_standAt (wpAny_bind (subDict_mix (by omega) (by rw [hlen]; exact h15) (thn (h.run pins _ σ _ _ I1 (q _ hn ns)) fun ws s2 hh => ?_))))
  obtain ⟨ps, H2, I2, rel, e, ks, ep, lk, hk, q2⟩ := hh
  subst ep
  have rows : ∃ rs : List Mr, ws = rs.map (fun r => (r.2.1, r.2.2)) ∧ Paired RowR ks rs := by
    clear q2 hk lk e
    induction ks generalizing ws with
    | nil =>
      cases rel
      exact ⟨[], rfl, .nil⟩
    | cons r ks ih =>
      rw [List.map_cons] at rel
      cases rel with
      | @cons _ b _ bs hab t =>
        obtain ⟨rs, e1, e2⟩ := ih bs t
        exact ⟨(r.1, b.1, b.2) :: rs, by rw [e1]; rfl, .cons ⟨rfl, hab.1, hab.2⟩ e2⟩
  obtain ⟨rs, rfl, hp⟩ := rows
  have z : Mx X.K H2 X.w s.heap.objs.size [] := ⟨.inl e, (fun r z => by cases z), List.nodup_nil, Nat.zero_le _, ns⟩
  obtain ⟨xs, M, hx⟩ := z.at_ I2
  cases hx
  refine ⟨rs, rfl, fun r hr => ?_, M, fun h' tk M' hs => wpAny_pure ⟨.ref s.heap.objs.size, _, ?_, rfl, q2⟩⟩
  · obtain ⟨p, h1, h2⟩ := rows_mem hp r hr
    obtain ⟨h3, h4⟩ := hk p h1
    rw [h2.1] at h3 h4
    exact ⟨KyV.is I2 _ _ _ h3 h2.2.1, h4⟩
  · obtain ⟨o, es, ep, ho, hrest⟩ := id M'
    exact I2.write (x := s.heap.objs.size) (e := s.heap.objs.size) (by rw [e]; exact True.intro) (.inl rfl) (fun b q hb z => (hs.2 b hb).trans z) ⟨o, ho⟩ (mxo_ok M' (rows_puts hp .nil))
end
end L2.Vf
/-! Dicts of mixed keys: walked, listed. -/
namespace L2.Vf
open PySem PySem.Spec PyProof.Rows
open Evl (Ex Ev EvT EvL EvA)
theorem paired_get {ks : List Mv} {xs : List Mr} (h : Paired RowR ks xs) {i : Nat} {p : Mv} (hp : ks[i]? = some p) : ∃ r, xs[i]? = some r ∧ RowR p r := by
  induction h generalizing i with
  | nil => simp at hp
  | @cons a b as bs hab _ ih =>
    cases i with
    | zero =>
      obtain rfl := Option.some.inj hp
      exact ⟨b, rfl, hab⟩
    | succ i =>
      obtain ⟨r, h1, h2⟩ := ih (i := i) (by simpa using hp)
      exact ⟨r, by simpa using h1, h2⟩
section
variable {X : Cx} {pins : List (Addr × Obj)} {σ : St} {H : Hp} {s : Shared} {d : Addr} {ks : List Mv} {o : Obj}
/-- what a locked dict's object is -/
theorem frz_mix (I : Inv X pins σ H s) (e : H d = some (.frz o (mxo d X.w ks))) : s.heap.get? d = some o ∧ o.ExactDict ∧ ∃ (es : Array DictEntry) (ep : Nat) (xs : List Mr), o.data = .dict es ep ∧ es.size = ks.length ∧ es.toList = xs.map (mEnt X.w) ∧ Paired RowR ks xs := by
  obtain ⟨h0, ⟨o', es, ep, xs, h1, h2, h3, h4, h5⟩, _, _⟩ := I.hok d _ e
  rw [h0] at h1
  cases h1
  refine ⟨h0, h2, es, ep, xs, h3, ?_, h4, h5⟩
  rw [← Array.length_toList, h4, List.length_map, Paired.length h5]
end
/-- the keys, from the first on -/
def Itm (d : Addr) (o : Obj) (w : World) (ks : List Mv) : It :=
  ⟨fun i H => H d = some (.frz o (mxo d w ks)) ∧ i < ks.length, fun i H x H' => H' = H ∧ ∃ p, ks[i]? = some p ∧ x = p.2.1, fun i H => H d = some (.frz o (mxo d w ks)) ∧ ks.length ≤ i⟩
section
variable {P : Program} {w : World} {K : PySem.W.Frag} {tg : Expr} {d : Addr} {o : Obj} {es : Array DictEntry} {ep : Nat}
theorem turn_mix {ks : List Mv} (it : Addr) (hod : o.data = .dict es ep) : Turn P w K tg (Itm d o w ks) [it] it (fun i h => h.IsKeyIter it d i ks.length ep) where
  mem := by simp
  obj := fun i h st b hb => by
    obtain rfl : b = it := by simpa using hb
    obtain ⟨oi, e, c, dd⟩ := st
    exact ⟨oi, e, fun v z => by rw [dd] at z; cases z⟩
  keep := fun i h h' st k => st.at fun oi e => k it (by simp) oi e
  item := by
    intro X hP hw hK hc i pins s σ H E I hf st hg
    subst hP hw hK
    obtain ⟨hd, hi⟩ := hg
    obtain ⟨f0, f1, f2, f3, f4, f5⟩ := hf it (by simp)
    obtain ⟨hgd, hx, es', ep', xs, hdt, hsz, he, hp⟩ := frz_mix I hd
    obtain ⟨rfl, rfl⟩ := dict_ep hod hdt
    obtain ⟨p, hkv⟩ : ∃ p, ks[i]? = some p := ⟨ks[i], List.getElem?_eq_getElem hi⟩
    obtain ⟨r, hr, hpr⟩ := paired_get hp hkv
    have hen : es'[i]? = some (mEnt X.w r) := by
      rw [← Array.getElem?_toList, he, List.getElem?_map, hr]
      rfl
    refine next_key_item st hgd hdt hsz hen fun h' st' sb => ?_
    have I1 : Inv X pins σ H { s with heap := h' } := I.turned (t' := s.toks) (fun b ob hb e => (sb.2 b hb).trans e) f0 f1 f3 f4 f5
    obtain ⟨oi, e, c, dd⟩ := id st'
    exact ⟨(mEnt X.w r).key, rfl, go_of (s := { s with heap := h' }) e c dd (by decide) ⟨p.2.1, H, I1, hpr.2.1, ⟨rfl, p, hkv, rfl⟩, st', fun b hb => (hf b hb).1⟩⟩
  done := by
    intro X hP hw hK hc i pins s σ H E I hf st hg
    subst hP hw hK
    obtain ⟨hd, hi⟩ := hg
    obtain ⟨f0, f1, f2, f3, f4, f5⟩ := hf it (by simp)
    obtain ⟨hgd, hx, es', ep', xs, hdt, hsz, he, hp⟩ := frz_mix I hd
    obtain ⟨rfl, rfl⟩ := dict_ep hod hdt
    exact next_key_end (I.ok.hd hc) st hgd hdt hsz hi fun h' eb => ⟨rfl, I.turned (t' := s.toks) (fun b ob hb e => eb b ob hb e) f0 f1 f3 f4 f5⟩
  self := fun A i s Q E st h => by
    refine wpAny_pyIter_slot st.typeIs F.slot_dict_keyiterator_iter (wpAny_call_entry F.slot_dict_keyiterator_iter st.typeIs F.entry_dict_keyiterator_iter ?_ (F.args_dict_keyiterator_iter_1 _))
    show wpAny _ _ (ret (.ref it)) _ _ s
    exact wpAny_pure ⟨_, rfl, "dict_keyiterator", _, st.typeIs, F.slot_dict_keyiterator_next.lookup, h⟩
end
/-- for k in d, d locked -/
def iMix (w : World) (td : TE) : TI := fun σ H R => td σ H fun x H1 => ∃ (d : Addr) (o : Obj) (ks : List Mv), x = .ref d ∧ (d == sysModules) = false ∧ H1 d = some (.frz o (mxo d w ks)) ∧ R (Itm d o w ks) H1
theorem pi_mix {X : Cx} {tg e : Expr} {td : TE} {w : World} (he : PE X e td) (hw : X.w = w := by rfl) : PI X tg e (iMix w td) := by
  subst hw
  refine ⟨fun pins s σ H R I h => ?_⟩
  refine thn (he.run pins s σ H _ I h) fun u s1 ⟨x, H1, I1, rx, d, o, ks, ex, hs, hd, q⟩ => ?_
  subst ex
  obtain rfl : u = Value.ref d := rx
  obtain ⟨hgd, hx, es, ep, xs, hdt, hsz, _, _⟩ := frz_mix I1 hd
  refine iter_keys hs hgd hx hdt (pi_one (tk := s1.toks) I1 _ (turn_mix _ hdt) ⟨_, Heap.get?_push_size _ rfl, rfl, ?_⟩ q)
  rw [hsz] <;> rfl
section
variable {d : Addr} {o : Obj} {w : World} {ks : List Mv}
theorem for_mix {g : TG} {tb : TS} {D : Ends} {σ : St} {H : Hp} (Pv : Nat → St → Hp → Prop) (h0 : Pv 0 σ H) (hl : ∀ i σ H, Pv i σ H → H d = some (.frz o (mxo d w ks)))
    (hs : ∀ i p σ H, ks[i]? = some p → Pv i σ H → g p.2.1 σ H fun σ2 H2 => tb { D with nx := Pv (i + 1), ct := Pv (i + 1), bk := D.nx } σ2 H2) (hd : ∀ σ H, Pv ks.length σ H → D.nx σ H) :
    ∃ W : Nat → Nat → St → Hp → Prop, (∃ m, W 0 m σ H) ∧ ∀ i m σ H, W i m σ H →
      ((Itm d o w ks).stop i H ∧ D.nx σ H) ∨ ((Itm d o w ks).go i H ∧ ∃ N : St → Hp → Prop, (∀ σ' H', N σ' H' → ∃ m', m' < m ∧ W (i + 1) m' σ' H') ∧ ∀ x H', (Itm d o w ks).yld i H x H' → g x σ H' fun σ2 H2 => tb { D with nx := N, ct := N, bk := D.nx } σ2 H2) := by
  refine ⟨fun i m σ H => m = ks.length - i ∧ i ≤ ks.length ∧ Pv i σ H, ⟨ks.length, by simp, Nat.zero_le _, h0⟩, ?_⟩
  rintro i m σ H ⟨rfl, hi, p⟩
  rcases Nat.lt_or_ge i ks.length with lt | ge
  · refine .inr ⟨⟨hl i σ H p, lt⟩, Pv (i + 1), fun σ' H' q => ⟨ks.length - (i + 1), by omega, rfl, lt, q⟩, fun x H' y => ?_⟩
    obtain ⟨rfl, r, hr, rfl⟩ := y
    exact hs i r σ _ hr p
  · have e : i = ks.length := by omega
    subst e
    exact .inl ⟨⟨hl _ σ H p, Nat.le_refl _⟩, hd σ H p⟩
theorem lc_mix {g : TG} {tt : TT} {te : TE} {vs : List Nat} {σ : St} {H1 : Hp} {D : Addr} {Qd : Hp → Prop} (Pv : Nat → Hp → Prop) (h0 : Pv 0 (upd H1 D (.lst []))) (hl : ∀ i H, Pv i H → H d = some (.frz o (mxo d w ks)))
    (hs : ∀ i p H, ks[i]? = some p → Pv i H → g p.2.1 (wipe σ vs) H fun σ2 H2 => wipe σ2 vs = wipe σ vs ∧ tt σ2 H2 fun b H3 =>
      if b = true then te σ2 H3 fun y H4 => ∃ acc, H4 D = some (.lst acc) ∧ acc.length < sizeLine ∧ Pv (i + 1) (upd H4 D (.lst (acc ++ [y]))) else Pv (i + 1) H3) (hd : ∀ H, Pv ks.length H → Qd H) :
    ∃ W : Nat → Nat → Hp → Prop, (∃ m, W 0 m (upd H1 D (.lst []))) ∧ ∀ i m H, W i m H →
      ((Itm d o w ks).stop i H ∧ Qd H) ∨ ((Itm d o w ks).go i H ∧ ∃ Nx : Hp → Prop, (∀ H', Nx H' → ∃ m', m' < m ∧ W (i + 1) m' H') ∧ ∀ x H', (Itm d o w ks).yld i H x H' → g x (wipe σ vs) H' fun σ2 H2 => wipe σ2 vs = wipe σ vs ∧ tt σ2 H2 fun b H3 =>
        if b = true then te σ2 H3 fun y H4 => ∃ acc, H4 D = some (.lst acc) ∧ acc.length < sizeLine ∧ Nx (upd H4 D (.lst (acc ++ [y]))) else Nx H3) := by
  refine ⟨fun i m H => m = ks.length - i ∧ i ≤ ks.length ∧ Pv i H, ⟨ks.length, by simp, Nat.zero_le _, h0⟩, ?_⟩
  rintro i m H ⟨rfl, hi, p⟩
  rcases Nat.lt_or_ge i ks.length with lt | ge
  · refine .inr ⟨⟨hl i H p, lt⟩, Pv (i + 1), fun H' q => ⟨ks.length - (i + 1), by omega, rfl, lt, q⟩, fun x H' y => ?_⟩
    obtain ⟨rfl, r, hr, rfl⟩ := y
    exact hs i r _ hr p
  · have e : i = ks.length := by omega
    subst e
    exact .inl ⟨⟨hl _ H p, Nat.le_refl _⟩, hd H p⟩
end
section
variable {prog : Program} {w : World} {A : Around} {d : Addr} {o : Obj} {es : Array DictEntry} {ep : Nat}
theorem walks_mix (hh : A.handled = none) (I : Addr) (hne : d ≠ I) (hod : o.data = .dict es ep) :
    Walks prog w A I [I, d] [I] es.size (fun i v => ∃ en, es[i]? = some en ∧ v = en.key) (fun i h => h.IsKeyIter I d i es.size ep ∧ h.get? d = some o) where
  sub := fun b hb => by simp at hb; simp [hb]
  frame := fun _ _ _ st hk => ⟨st.1.at fun q e => hk I (by simp) q e, hk d (by simp) o st.2⟩
  item := fun i s Q E hi st hQ => next_key_item st.1 st.2 hod rfl (Array.getElem?_eq_getElem hi) fun h' it' sb =>
    hQ _ h' s.toks ⟨_, Array.getElem?_eq_getElem hi, rfl⟩ ⟨it', (sb.2 d hne).trans st.2⟩ fun b q hb e => (sb.2 b (by simpa using hb)).trans e
  done := fun s Q E st hQ => next_key_end hh st.1 st.2 hod rfl (Nat.le_refl _) fun h' eb => hQ h' s.toks fun b q hb e => eb b q (by simpa using hb) e
  self := fun _ _ _ _ st hQ => wpAny_pyIter_keyiter st.1 hQ
theorem kdl_mix (lo : (d == sysModules) = false) (hx : o.ExactDict) (hod : o.data = .dict es ep) : PySem.W.KdlSrc prog w "dict" d d es.size (fun i v => ∃ en, es[i]? = some en ∧ v = en.key) (fun h => h.get? d = some o) where
  type := fun s hm => ⟨o, hm, hx.1⟩
  there := fun h hm => ⟨Heap.lt_size hm, Heap.lt_size hm⟩
  keep := fun h h' hm hk => hk d (.inl rfl) o hm
  notList := by decide
  notTuple := by decide
  hint := fun _ _ s _ hm hq => PySem.W.kdl_hint_dict ⟨o, hm, hx.1⟩ hq
  iter := fun _ s hh hm => ⟨_, _, (fun _ _ hq => iter_keys lo hm hx hod hq), walks_mix hh _ (Nat.ne_of_lt (Heap.lt_size hm)) hod, ⟨⟨_, Heap.get?_push_size _ rfl, rfl, rfl⟩, Heap.get?_push_of_some _ hm⟩⟩
end
theorem vals_rows {ks : List Mv} {xs : List Mr} (h : Paired RowR ks xs) : Vals (ks.map fun r => r.2.1) (xs.map fun r => r.2.1) := by
  induction h with
  | nil => exact .nil
  | cons hp _ ih => exact .cons hp.2.1 ih
/-- list(d): its keys -/
def rListM (K : PySem.W.Frag) (w : World) : List V → Hp → VK → Prop := fun xs H Q => ∃ (d : Addr) (ks : List Mv), xs = [.ref d] ∧ Mx K H w d ks ∧ ∀ p, H p = none → Q (.ref p) (upd H p (.lst (ks.map fun r => r.2.1)))
theorem call_listM {X : Cx} {K : PySem.W.Frag} {w : World} (hc : X.calm = true) (hK : X.K = K := by rfl) (hw : X.w = w := by rfl) : CallR X (.type "list") (rListM K w) := by
  subst hK hw
  intro pins s σ H xs us Q I r q
  obtain ⟨d, ks, ex, m, q⟩ := q
  subst ex
  obtain ⟨u, eu, rx⟩ := vals1 r
  subst eu
  cases rx
  obtain ⟨rows, ⟨o, es, ep, ho, hx, hd, R⟩, hp⟩ := m.at_ I
  have hz : es.size ≤ sizeLine := by
    rw [R.size, ← Paired.length hp]
    exact Nat.le_of_lt (small1000 m.len)
  refine PySem.W.kdl_call (kdl_mix m.sys hx hd) (I.ok.hd hc) ho hz fun h' tk acc c' hk hD hacc => ?_
  have ea : acc.toList = rows.map (fun r => r.2.1) := by
    apply List.ext_getElem?
    intro j
    rw [Array.getElem?_toList, List.getElem?_map]
    cases hj : acc[j]? with
    | none =>
      have := Array.getElem?_eq_none_iff.mp hj
      have e1 := hacc.1
      have e2 := R.size
      rw [List.getElem?_eq_none (by omega)]
      rfl
    | some v =>
      obtain ⟨en, h1, rfl⟩ := hacc.2 j v hj
      rw [R.get j] at h1
      cases hr : rows[j]? with
      | none => rw [hr] at h1; cases h1
      | some r =>
        rw [hr] at h1
        cases h1
        rfl
  have hv : Vals (ks.map fun r => r.2.1) acc.toList := by
    rw [ea]
    exact vals_rows hp
  refine ⟨.ref s.heap.objs.size, upd H s.heap.objs.size (.lst (ks.map fun r => r.2.1)), I.laid (t' := tk) hk (Nat.le_refl _) ⟨?_, acc.toList, c', hv, by rw [Array.toArray_toList]; exact hD⟩, rfl, q _ (I.hok.fresh (Nat.le_refl _))⟩
  rw [List.length_map]
  exact Nat.le_of_lt (small1000 m.len)
end L2.Vf
/-! Dicts of mixed keys: made of a list of pairs. -/
namespace L2.Vf
open PySem PySem.Spec PyProof.Rows
open Evl (Ex Ev EvT EvL EvA)
section
variable {prog : Program} {w : World} {A : Around} {E : Value → Shared → Prop}
theorem NestedIs.ext {h h' : Heap} {I : Addr} {k : NestedKey} {v : Value} (hI : ∃ oi, h.get? I = some oi ∧ ∀ vs n, oi.data ≠ .seq vs n) (st : ∀ b o, b ≠ I → h.get? b = some o → h'.get? b = some o) (x : NestedIs h k v) : NestedIs h' k v := by
  refine NestedIs.at (fun b o vs n hb hd => st b o (fun e => ?_) hb) k v x
  obtain ⟨oi, h1, h2⟩ := hI
  rw [e, h1] at hb
  cases hb
  exact h2 vs n hd
theorem MixAt.ext {h h' : Heap} {I d : Addr} {xs : List Mr} (hI : ∃ oi, h.get? I = some oi ∧ ∀ vs n, oi.data ≠ .seq vs n) (st : ∀ b o, b ≠ I → h.get? b = some o → h'.get? b = some o) (ne : d ≠ I) (M : MixAt w h d xs) : MixAt w h' d xs := by
  obtain ⟨o, es, ep, ho, hx, hd, R⟩ := M
  exact ⟨o, es, ep, st d o ne ho, hx, hd, R.at_, fun r hr => ⟨NestedIs.ext hI st (R.key r hr).1, (R.key r hr).2⟩, R.one⟩
theorem MixAt.keeps {h h' : Heap} {d : Addr} {xs : List Mr} (st : ∀ b o, h.get? b = some o → h'.get? b = some o) (M : MixAt w h d xs) : MixAt w h' d xs := by
  obtain ⟨o, es, ep, ho, hx, hd, R⟩ := M
  exact ⟨o, es, ep, st d o ho, hx, hd, R.at_, fun r hr => ⟨NestedIs.at (fun b q vs n hb _ => st b q hb) _ _ (R.key r hr).1, (R.key r hr).2⟩, R.one⟩
/-- a pair of the list -/
def PairAt (h : Heap) (S I : Addr) (x : Option Value) (r : Mr) : Prop := ∃ b : Addr, x = some (.ref b) ∧ b ≠ S ∧ b ≠ I ∧ IsTup h b #[r.2.1, r.2.2] ∧ NestedIs h r.1 r.2.1 ∧ r.1.depth ≤ 8
theorem upd_mix {R : Result → Shared → Prop} {S I l : Addr} {items : Array Value} {res : Value} (hu : A.units + 40 < cLine) (hh : A.handled = none) (hlI : l ≠ I) (hSI : S ≠ I) (hSl : S ≠ l) :
    ∀ (rest : List Mr) (i : Nat) (acc : List Mr) (ix : Int) (t : Tok) (s : Shared), items.size = i + rest.length → acc.length + rest.length ≤ sizeLine → (∀ (j : Nat) (r : Mr), rest[j]? = some r → PairAt s.heap S I items[i + j]? r) →
      s.heap.IsListIter I l i → s.heap.IsList l items → MixAt w s.heap S acc →
      (∀ h' tk, MixAt w h' S (mPuts acc rest) → (∀ b o, b ≠ S → b ≠ I → s.heap.get? b = some o → h'.get? b = some o) → R (.ok (.ret res)) { s with heap := h', toks := tk }) →
      codeAny (model prog w) A (.builtin "dict.update.loop" ⟨[.ref S, .ref I, .int ix t, res], []⟩) R s
  | [], i, acc, ix, t, s, hsz, hln, ht, hit, hl, M, hR => by
    refine codeAny_builtin ud_entry ?_
    rw [Around.under_plainId ud_plain _]
    show wpAny _ A.in1 (pyNext (.ref I) >>= _) _ _ s
    have hI : ∃ oi, s.heap.get? I = some oi ∧ ∀ vs n, oi.data ≠ .seq vs n := by
      obtain ⟨oi, h1, _, h2⟩ := hit
      exact ⟨oi, h1, fun vs n z => by rw [h2] at z; cases z⟩
    refine wpAny_bind (wpAny_pyNext_list_end (A := A.in1) hh hit hl (Array.getElem?_eq_none (Nat.le_of_eq hsz)) fun h' he => ?_)
    show wpAny _ A.in1 (Builtin.Dict.addKeywords S [] >>= _) _ _ _
    refine wpAny_bind (wpAny_pure (wpAny_pure ?_))
    exact hR h' s.toks (M.ext hI (fun b o hb e => he b o hb e) hSI) fun b o _ hb e => he b o hb e
  | r :: rest, i, acc, ix, t, s, hsz, hln, ht, hit, hl, M, hR => by
    obtain ⟨b, hb, hbS, hbI, htup, hk, dk⟩ := ht 0 r rfl
    rw [List.length_cons] at hsz hln
    have hI : ∃ oi, s.heap.get? I = some oi ∧ ∀ vs n, oi.data ≠ .seq vs n := by
      obtain ⟨oi, h1, _, h2⟩ := hit
      exact ⟨oi, h1, fun vs n z => by rw [h2] at z; cases z⟩
    refine codeAny_builtin ud_entry ?_
    rw [Around.under_plainId ud_plain _]
    show wpAny _ A.in1 (pyNext (.ref I) >>= _) _ _ s
    refine wpAny_bind (wpAny_pyNext_list_item (x := .ref b) hit hl (by simpa using hb) fun h1 hit1 hs1 => ?_)
    have k1 : ∀ c q, c ≠ I → s.heap.get? c = some q → h1.get? c = some q := fun c q hc e => hs1.extBut c q hc e
    have ht1 : IsTup h1 b #[r.2.1, r.2.2] := htup.extBut hs1.extBut hbI
    have hl1 : h1.IsList l items := hl.extBut hs1.extBut hlI
    have M1 := M.ext hI k1 hSI
    have hk1 := NestedIs.ext hI k1 hk
    obtain ⟨o, ho, hc, n, hd⟩ := id ht1
    show wpAny _ A.in1 (holding [Value.ref b] _ >>= _) _ _ _
    refine wpAny_bind (wpAny_holding ?_)
    refine wpAny_bind (wpAny_tryCatch ?_)
    unfold Builtin.Dict.pairItems
    refine wpAny_bind (wpAny_typeOf (T := "tuple") ⟨o, ho, hc⟩ ?_)
    rw [if_pos (by first | decide | rfl | simp)]
    refine wpAny_bind (wpAny_seqItems ho hd (wpAny_pure ?_))
    show wpAny _ A.in1 (holding [r.2.1, r.2.2] (dictSet S r.2.1 r.2.2)) _ _ _
    refine wpAny_holding (set_mix (s := { s with heap := h1 }) (by show A.units + 1 + 16 < _; omega) hk1 dk M1 (by omega) fun h2 M2 hs2 => ?_)
    have le := mPut_len acc r.1 r.2.1 r.2.2
    obtain ⟨oS, eS, pS, hoS, _, hdS, _⟩ := id M1
    have hS : ∃ oi, h1.get? S = some oi ∧ ∀ vs n, oi.data ≠ .seq vs n := ⟨oS, hoS, fun vs n z => by rw [hdS] at z; cases z⟩
    have k2 : ∀ c q, c ≠ S → h1.get? c = some q → h2.get? c = some q := fun c q hc e => (hs2.2 c hc).trans e
    refine wpAny_pure ⟨plainId_quiet ud_plain _, upd_mix (items := items) hu hh hlI hSI hSl rest (i + 1) (mPut acc r.1 r.2.1 r.2.2) (ix + 1) 0 _ (show items.size = i + 1 + rest.length by omega) (by omega) (fun j q e => ?_) ?_ ?_ M2 fun h' tk M' k => ?_⟩
    · obtain ⟨b', hb', hbS', hbI', htup', hk', dk'⟩ := ht (j + 1) q (by simpa using e)
      refine ⟨b', ?_, hbS', hbI', (htup'.extBut hs1.extBut hbI').extBut hs2.extBut hbS', NestedIs.ext hS k2 (NestedIs.ext hI k1 hk'), dk'⟩
      rw [show i + 1 + j = i + (j + 1) by omega]
      exact hb'
    · exact hit1.at fun o' e => hs2.extBut I o' (Ne.symm hSI) e
    · exact hl1.extBut hs2.extBut (Ne.symm hSl)
    · exact hR h' tk M' fun c oc h3 h4 e => k c oc h3 h4 (hs2.extBut c oc h3 (hs1.extBut c oc h4 e))
/-- dict(l) of a list of pairs -/
theorem dict_pairs_mix {s : Shared} {l : Addr} {ol : Obj} {items : Array Value} {n : Nat} {rows : List Mr} {Q : Value → Shared → Prop} (hu : A.units + 60 < cLine) (hh : A.handled = none) (hl : s.heap.get? l = some ol) (hc : ol.cls = .type "list") (hd : ol.dict = none)
    (hdat : ol.data = .seq items n) (hsz : items.size = rows.length) (hln : rows.length ≤ sizeLine)
    (ht : ∀ (j : Nat) (r : Mr), rows[j]? = some r → ∃ b : Addr, items[j]? = some (.ref b) ∧ IsTup s.heap b #[r.2.1, r.2.2] ∧ NestedIs s.heap r.1 r.2.1 ∧ r.1.depth ≤ 8)
    (h : ∀ h' tk, MixAt w h' s.heap.objs.size (mPuts [] rows) → (∀ b o, s.heap.get? b = some o → h'.get? b = some o) → Q (.ref s.heap.objs.size) { s with heap := h', toks := tk }) :
    wpAny (model prog w) A (call (.type "dict") [.ref l]) Q E s := by
  refine callType_codes (Q₁ := fun obj s₁ => obj = .ref s.heap.objs.size ∧ s₁ = { s with heap := s.heap.push { cls := .type "dict", data := .dict #[] } }) PySem.F.kt_called_dict (PySem.F.kt_typeCall_dict_1 _) PySem.F.entry_dict_init (kt_code_dict_new _ ⟨rfl, rfl⟩) ?_
  rintro obj s₁ ⟨rfl, rfl⟩
  have M0 := mix_new w s.heap
  have k0 : ∀ b o, s.heap.get? b = some o → (s.heap.push { cls := .type "dict", data := .dict #[] }).get? b = some o := fun b o e => Heap.get?_push_of_some _ e
  have hT : ({ s with heap := s.heap.push { cls := .type "dict", data := .dict #[] } } : Shared).TypeIs (.ref s.heap.objs.size) "dict" := MixAt.typeIs (s := { s with heap := s.heap.push { cls := .type "dict", data := .dict #[] } }) M0
  refine ⟨hT, PySem.F.args_dict_init_2 _ _, ?_⟩
  unfold Builtin.«dict.__init__»
  refine wpAny_bind ?_
  unfold Builtin.Dict.selfAndRest
  refine wpAny_bind (wpAny_notOrdered_dict hT ?_)
  show wpAny _ _ (pure (s.heap.objs.size, [Value.ref l])) _ _ _
  refine wpAny_pure ?_
  show wpAny _ _ (Builtin.Dict.updateFrom "dict.__init__" s.heap.objs.size (.ref l) [] .none) _ _ _
  unfold Builtin.Dict.updateFrom
  refine wpAny_bind (wpAny_typeOf (T := "list") ⟨ol, k0 _ _ hl, hc⟩ ?_)
  rw [if_pos (by first | decide | rfl | simp)]
  refine wpAny_bind (miss_list (k0 _ _ hl) hc hdat hd hh fun h1 tk1 hk1 => ?_)
  rw [if_pos (show (none : Option Value).isNone = true from rfl)]
  refine wpAny_bind (wpAny_rule ?_)
  have hl1 : h1.IsList l items := ⟨ol, hk1 _ _ (k0 _ _ hl), hc, n, hdat⟩
  have hS1 : s.heap.objs.size < h1.objs.size := by
    have e : (s.heap.push { cls := .type "dict", data := .dict #[] }).get? s.heap.objs.size = some { cls := .type "dict", data := .dict #[] } := Heap.get?_push_size _ rfl
    exact Heap.lt_size (hk1 _ _ e)
  refine wpAny_bind (wpAny_pyIter_list hl1 ?_)
  have k2 : ∀ b o, h1.get? b = some o → (h1.push { cls := .type "list_iterator", data := .fields #[.ref l, .int 0 0] }).get? b = some o := fun b o e => Heap.get?_push_of_some _ e
  have kk : ∀ b o, s.heap.get? b = some o → (h1.push { cls := .type "list_iterator", data := .fields #[.ref l, .int 0 0] }).get? b = some o := fun b o e => k2 _ _ (hk1 _ _ (k0 _ _ e))
  have hlt : l < s.heap.objs.size := Heap.lt_size hl
  have key := upd_mix (prog := prog) (w := w) (A := A.in1) (R := wants (fun r s₂ => r = .none ∧ Q (.ref s.heap.objs.size) s₂) E) (S := s.heap.objs.size) (I := h1.objs.size) (l := l) (items := items) (res := Value.none) (by show A.units + 1 + 40 < _; omega) hh
    (Nat.ne_of_lt (Nat.lt_trans hlt hS1)) (Nat.ne_of_lt hS1) (Nat.ne_of_gt hlt) rows 0 [] 0 0
    { s with heap := h1.push { cls := .type "list_iterator", data := .fields #[.ref l, .int 0 0] }, toks := tk1 } (by rw [hsz, Nat.zero_add]) (by rw [List.length_nil, Nat.zero_add]; exact hln)
    (fun j r e => by
      obtain ⟨b, e1, e2, e3, e4⟩ := ht j r e
      have hb : b < s.heap.objs.size := e2.lt
      exact ⟨b, by rw [Nat.zero_add]; exact e1, Nat.ne_of_lt hb, Nat.ne_of_lt (Nat.lt_trans hb hS1), e2.keeps kk, NestedIs.at (fun c q vs m hq _ => kk c q hq) _ _ e3, e4⟩)
    ⟨_, Heap.get?_push_size _ rfl, rfl, rfl⟩ (hl1.at fun o e => k2 _ _ e) ((M0.keeps hk1).keeps k2)
    (fun h' tk M' k => ⟨rfl, h h' tk M' fun b o e => k b o (Nat.ne_of_lt (Heap.lt_size e)) (Nat.ne_of_lt (Nat.lt_trans (Heap.lt_size e) hS1)) (kk _ _ e)⟩)
  first
    | exact wpAny_pure ⟨plainId_quiet ud_plain _, key⟩
    | exact wpAny_bind (wpAny_pure (wpAny_pure ⟨plainId_quiet ud_plain _, key⟩))
end
end L2.Vf
/-! Dicts of mixed keys: dict(pairs) as a rule; data that holds such dicts, and its repr. -/
namespace L2.Vf
open PySem PySem.Spec PyProof.Rows
open Evl (Ex Ev EvT EvL EvA)
def rDictM (K : PySem.W.Frag) (w : World) : List V → Hp → VK → Prop := fun xs H Q => ∃ (a : Addr) (ps : List Addr) (ks : List Mv), xs = [.ref a] ∧ SqL K H a (ps.map V.ref) ∧ Paired (fun p (r : Mv) => SqT K H p [r.2.1, r.2.2]) ps ks ∧
  (∀ r ∈ ks, KyV K H r.1 r.2.1 ∧ r.1.depth ≤ 8) ∧ ks.length ≤ 1000 ∧ ∀ p, H p = none → (p == sysModules) = false → Q (.ref p) (upd H p (mxo p w (mergeM [] ks)))
section
variable {X : Cx} {pins : List (Addr × Obj)} {σ : St} {H : Hp} {s : Shared}
theorem pairs_mix (I : Inv X pins σ H s) : ∀ {ps : List Addr} {ks : List Mv}, Paired (fun p (r : Mv) => SqT X.K H p [r.2.1, r.2.2]) ps ks → (∀ r ∈ ks, KyV X.K H r.1 r.2.1 ∧ r.1.depth ≤ 8) →
    ∃ rows : List Mr, Paired RowR ks rows ∧ rows.length = ps.length ∧ ∀ (j : Nat) (r : Mr), rows[j]? = some r → ∃ b : Addr, ps[j]? = some b ∧ IsTup s.heap b #[r.2.1, r.2.2] ∧ NestedIs s.heap r.1 r.2.1 ∧ r.1.depth ≤ 8
  | _, _, .nil, _ => ⟨[], .nil, rfl, fun j q e => by simp at e⟩
  | _, _, .cons (a := p) (b := kv) h t, hk => by
    obtain ⟨rows, r, hl, hp⟩ := pairs_mix I t fun q hq => hk q (List.mem_cons_of_mem _ hq)
    obtain ⟨its, rv, ht, _⟩ := I.tuple h
    obtain ⟨u, y, ei, ru, ry⟩ := vals2 rv
    subst ei
    obtain ⟨h3, h4⟩ := hk kv List.mem_cons_self
    refine ⟨(kv.1, u, y) :: rows, .cons ⟨rfl, ru, ry⟩ r, by rw [List.length_cons, List.length_cons, hl], fun j q e => ?_⟩
    cases j with
    | zero =>
      obtain rfl : (kv.1, u, y) = q := Option.some.inj e
      exact ⟨p, rfl, ht, KyV.is I _ _ _ h3 ru, h4⟩
    | succ j =>
      obtain ⟨b, e1, e2⟩ := hp j q (by simpa using e)
      exact ⟨b, by simpa using e1, e2⟩
theorem call_dictM {K : PySem.W.Frag} {w : World} (hu : X.A.units + 60 < cLine) (hc : X.calm = true) (hK : X.K = K := by rfl) (hw : X.w = w := by rfl) : CallR X (.type "dict") (rDictM K w) := by
  subst hK hw
  intro pins s σ H xs us Q I r q
  obtain ⟨a, ps, ks, ex, hq, hp, hk, hz, q⟩ := q
  subst ex
  obtain ⟨u, eu, rx⟩ := vals1 r
  subst eu
  cases rx
  obtain ⟨its, rv, pl, _⟩ := I.list hq
  have ei := refs_at rv
  subst ei
  obtain ⟨rows, rel, hl, hpr⟩ := pairs_mix I hp hk
  obtain ⟨o, n, ho, hcl, hd, hdat⟩ := pl
  have hlen : rows.length ≤ 1000 := by
    rw [← Paired.length rel]
    exact hz
  refine dict_pairs_mix (rows := rows) hu (I.ok.hd hc) ho hcl hd hdat (by simp [hl]) (Nat.le_of_lt (small1000 hlen)) (fun j r' e => ?_) fun h' tk M k => ?_
  · obtain ⟨b, e1, e2⟩ := hpr j r' e
    exact ⟨b, by simp [e1], e2⟩
  · refine ⟨.ref s.heap.objs.size, upd H s.heap.objs.size (mxo s.heap.objs.size X.w (mergeM [] ks)), I.laid (t' := tk) k (Nat.le_refl _) (mxo_ok M (rows_puts rel .nil)), rfl, q _ (I.hok.fresh (Nat.le_refl _)) ?_⟩
    exact beq_eq_false_iff_ne.mpr (Nat.ne_of_gt I.big)
end
/-! ### data -/
mutual
inductive Dr (K : PySem.W.Frag) (w : World) (H : Hp) : V → PyData → Prop
  | non : Dr K w H .non .none
  | bl (b : Bool) : Dr K w H (.bl b) (.bool b)
  | int (i : Int) : Dr K w H (.int i) (.int i)
  | str (x : Str) : Dr K w H (.str x) (.str x)
  | lst {a : Addr} {xs : List V} {ds : List PyData} : a ≠ sysModules → SqL K H a xs → DrAll K w H xs ds → Dr K w H (.ref a) (.list ds)
  | tup {a : Addr} {xs : List V} {ds : List PyData} : SqT K H a xs → DrAll K w H xs ds → Dr K w H (.ref a) (.tuple ds)
  | dct {d : Addr} {ks : List Mv} {es : List (PyData × PyData)} : Mx K H w d ks → DrKv K w H ks es → Dr K w H (.ref d) (.dict es)
inductive DrAll (K : PySem.W.Frag) (w : World) (H : Hp) : List V → List PyData → Prop
  | nil : DrAll K w H [] []
  | cons {v : V} {vs : List V} {d : PyData} {ds : List PyData} : Dr K w H v d → DrAll K w H vs ds → DrAll K w H (v :: vs) (d :: ds)
inductive DrKv (K : PySem.W.Frag) (w : World) (H : Hp) : List Mv → List (PyData × PyData) → Prop
  | nil : DrKv K w H [] []
  | cons {p : Mv} {ks : List Mv} {k v : PyData} {es : List (PyData × PyData)} : Dr K w H p.2.1 k → Dr K w H p.2.2 v → DrKv K w H ks es → DrKv K w H (p :: ks) ((k, v) :: es)
end
mutual
theorem Dr.mono {K : PySem.W.Frag} {w : World} {H H' : Hp} (e : Ex H H') : ∀ (d : PyData) (v : V), Dr K w H v d → Dr K w H' v d
  | .none, _, h => by cases h; exact .non
  | .bool b, _, h => by cases h; exact .bl b
  | .int i, _, h => by cases h; exact .int i
  | .str x, _, h => by cases h; exact .str x
  | .list ds, _, h => by
    cases h with
    | lst hn hs ha => exact .lst hn (Evl.ex_l e hs) (DrAll.mono e ds _ ha)
  | .tuple ds, _, h => by
    cases h with
    | tup hs ha => exact .tup (Evl.ex_t e hs) (DrAll.mono e ds _ ha)
  | .dict es, _, h => by
    cases h with
    | dct hs ha => exact .dct (hs.mono e) (DrKv.mono e es _ ha)
theorem DrAll.mono {K : PySem.W.Frag} {w : World} {H H' : Hp} (e : Ex H H') : ∀ (ds : List PyData) (vs : List V), DrAll K w H vs ds → DrAll K w H' vs ds
  | [], _, h => by cases h; exact .nil
  | d :: ds, _, h => by
    cases h with
    | cons h1 h2 => exact .cons (Dr.mono e d _ h1) (DrAll.mono e ds _ h2)
theorem DrKv.mono {K : PySem.W.Frag} {w : World} {H H' : Hp} (e : Ex H H') : ∀ (es : List (PyData × PyData)) (ks : List Mv), DrKv K w H ks es → DrKv K w H' ks es
  | [], _, h => by cases h; exact .nil
  | (k, v) :: es, _, h => by
    cases h with
    | cons h1 h2 h3 => exact .cons (Dr.mono e k _ h1) (Dr.mono e v _ h2) (DrKv.mono e es _ h3)
end
section
variable {X : Cx} {pins : List (Addr × Obj)} {σ : St} {H : Hp} {s : Shared}
mutual
theorem Dr.reads (I : Inv X pins σ H s) : ∀ (d : PyData) (v : V) (u : Value), Dr X.K X.w H v d → RelV v u → ∃ as, Reads s.heap u d as ∧ sysModules ∉ as
  | .none, _, _, h, r => by
    cases h
    cases r
    exact ⟨_, .none, by simp⟩
  | .bool b, _, _, h, r => by
    cases h
    cases r
    exact ⟨_, .bool b, by simp⟩
  | .int i, _, _, h, r => by
    cases h
    obtain ⟨t, rfl⟩ := r
    exact ⟨_, .int i t, by simp⟩
  | .str x, _, _, h, r => by
    cases h
    obtain ⟨t, rfl⟩ := r
    exact ⟨_, .str x t, by simp⟩
  | .list ds, _, _, h, r => by
    cases h with
    | lst na hq ha =>
      cases r
      obtain ⟨its, rv, ⟨o, n, ho, hc, _, hd⟩, _⟩ := I.list hq
      obtain ⟨as, hr, hn⟩ := DrAll.reads I ds _ its ha rv
      refine ⟨_, Reads.list ho hc hd hr, fun z => ?_⟩
      rcases List.mem_cons.mp z with z | z
      · exact na z.symm
      · exact hn z
  | .tuple ds, _, _, h, r => by
    cases h with
    | tup hq ha =>
      cases r
      obtain ⟨its, rv, ⟨o, ho, hc, n, hd⟩, _⟩ := I.tuple hq
      obtain ⟨as, hr, hn⟩ := DrAll.reads I ds _ its ha rv
      exact ⟨_, Reads.tuple ho hc hd hr, hn⟩
  | .dict es, _, _, h, r => by
    cases h with
    | dct m ha =>
      cases r
      obtain ⟨rows, ⟨o, en, ep, ho, hx, hd, R⟩, hp⟩ := m.at_ I
      obtain ⟨as, bs, k1, k2, n1, n2⟩ := DrKv.reads I es _ _ ha hp
      have e1 : en.toList.map (·.key) = rows.map (fun r => r.2.1) := by
        rw [R.at_, List.map_map]
        rfl
      have e2 : en.toList.map (·.val) = rows.map (fun r => r.2.2) := by
        rw [R.at_, List.map_map]
        rfl
      refine ⟨_, Reads.dict ho hx.1 hd (by rw [e1]; exact k1) (by rw [e2]; exact k2), fun z => ?_⟩
      rcases List.mem_append.mp z with z | z
      · rcases List.mem_cons.mp z with z | z
        · have := m.sys
          rw [← z] at this
          simp at this
        · exact n1 z
      · exact n2 z
theorem DrAll.reads (I : Inv X pins σ H s) : ∀ (ds : List PyData) (vs : List V) (us : List Value), DrAll X.K X.w H vs ds → Vals vs us → ∃ as, ReadsAll s.heap us ds as ∧ sysModules ∉ as
  | [], _, _, h, r => by
    cases h
    cases r
    exact ⟨_, .nil, by simp⟩
  | d :: ds, _, _, h, r => by
    cases h with
    | cons h1 h2 =>
      cases r with
      | cons r1 r2 =>
        obtain ⟨as, q1, n1⟩ := Dr.reads I d _ _ h1 r1
        obtain ⟨bs, q2, n2⟩ := DrAll.reads I ds _ _ h2 r2
        refine ⟨_, .cons q1 q2, fun z => ?_⟩
        rcases List.mem_append.mp z with z | z
        · exact n1 z
        · exact n2 z
theorem DrKv.reads (I : Inv X pins σ H s) : ∀ (es : List (PyData × PyData)) (ks : List Mv) (rows : List Mr), DrKv X.K X.w H ks es → Paired RowR ks rows →
    ∃ as bs, ReadsAll s.heap (rows.map fun r => r.2.1) (es.map (·.1)) as ∧ ReadsAll s.heap (rows.map fun r => r.2.2) (es.map (·.2)) bs ∧ sysModules ∉ as ∧ sysModules ∉ bs
  | [], _, _, h, r => by
    cases h
    cases r
    exact ⟨_, _, .nil, .nil, by simp, by simp⟩
  | (k, v) :: es, _, _, h, r => by
    cases h with
    | cons h1 h2 h3 =>
      cases r with
      | cons r1 r2 =>
        obtain ⟨a1, q1, n1⟩ := Dr.reads I k _ _ h1 r1.2.1
        obtain ⟨a2, q2, n2⟩ := Dr.reads I v _ _ h2 r1.2.2
        obtain ⟨as, bs, q3, q4, n3, n4⟩ := DrKv.reads I es _ _ h3 r2
        refine ⟨_, _, .cons q1 q3, .cons q2 q4, fun z => ?_, fun z => ?_⟩
        · rcases List.mem_append.mp z with z | z
          · exact n1 z
          · exact n3 z
        · rcases List.mem_append.mp z with z | z
          · exact n2 z
          · exact n4 z
end
/-- repr of such data -/
def rReprM (K : PySem.W.Frag) (w : World) : List V → Hp → VK → Prop := fun xs H Q => ∃ (a : Addr) (d : PyData), xs = [.ref a] ∧ Dr K w H (.ref a) d ∧ d.showable = true ∧ d.depth ≤ 150 ∧ d.shown.length ≤ sizeLine ∧ Q (.str d.shown) H
theorem call_reprM {K : PySem.W.Frag} {w : World} (hg : X.A.guards = some []) (hu : X.A.units + 190 < cLine) (hK : X.K = K := by rfl) (hw : X.w = w := by rfl) : CallR X (.builtin "repr") (rReprM K w) := by
  subst hK hw
  intro pins s σ H xs us Q I r h
  obtain ⟨a, d, rfl, hd, sh, dp, sz, q⟩ := h
  cases r with
  | cons rx rr =>
    cases rr
    obtain rfl := rx
    obtain ⟨as, hr, hn⟩ := Dr.reads I d _ _ hd rfl
    refine repr_of_reads' hr sh (fun _ => hn) hg (by omega) (fun _ _ z => z) (fun h' u tk hk => ?_) sz
    exact ⟨.str d.shown, H, I.kept (t' := tk) hk, ⟨u, rfl⟩, q⟩
end
end L2.Vf
/-! A source of draws; what stands away from what is written. -/
namespace L2.Vf
open PySem PySem.Spec PyProof.Rows
open Evl (Ex Ev EvT EvL EvA)
/-- the heap without what is written -/
def hide (S : List Addr) (H : Hp) : Hp := fun b => if b ∈ S then none else H b
/-- all but S stays -/
def But (S : List Addr) (H H' : Hp) : Prop := Ex (hide S H) (hide S H')
/-- S is there -/
def Kn (S : List Addr) (H : Hp) : Prop := ∀ b ∈ S, ∃ o, H b = some o
section
variable {K : PySem.W.Frag} {w : World} {σ : St} {H H' H1 H2 : Hp} {S T : List Addr} {q : Addr} {ta : TA} {te : TE} {d : PyData} {ds : List PyData} {v : V}
theorem hide_off (h : q ∉ S) : hide S H q = H q := if_neg h
theorem hide_ex : Ex (hide S H) H := fun b o h => by
  by_cases z : b ∈ S
  · rw [hide, if_pos z] at h
    cases h
  · rwa [hide, if_neg z] at h
theorem But.refl : But S H H := Ex.refl _
theorem But.trans (a : But S H H1) (b : But S H1 H2) : But S H H2 := Ex.trans a b
theorem But.of (e : Ex H H') : But S H H' := fun b o h => by
  by_cases z : b ∈ S
  · rw [hide, if_pos z] at h
    cases h
  · rw [hide, if_neg z] at h ⊢
    exact e b o h
theorem But.get (e : But S H H') {b : Addr} {o : HO} (n : b ∉ S) (h : H b = some o) : H' b = some o := by
  have z := e b o (by rw [hide_off n]; exact h)
  rwa [hide_off n] at z
theorem But.by (h : ∀ b o, b ∉ S → H b = some o → H' b = some o) : But S H H' := fun b o hb => by
  by_cases z : b ∈ S
  · rw [hide, if_pos z] at hb
    cases hb
  · rw [hide, if_neg z] at hb ⊢
    exact h b o z hb
theorem But.more (h : ∀ b ∈ S, b ∈ T) (e : But S H H') : But T H H' := But.by fun b o n hb => e.get (fun z => n (h b z)) hb
theorem But.mut {o : HO} (e : But S H H') (n : H q = none) : But S H (upd H' q o) := But.by fun b o' hb h => by
  rw [upd_ne (ne_of_none h n)]
  exact e.get hb h
theorem Kn.ex (k : Kn S H) (e : Ex H H') : Kn S H' := fun b hb => by
  obtain ⟨o, h⟩ := k b hb
  exact ⟨o, e _ _ h⟩
theorem Kn.off (k : Kn S H) (n : H q = none) : q ∉ S := fun z => by
  obtain ⟨o, h⟩ := k q z
  rw [h] at n
  cases n
theorem hide_new {o : HO} (k : Kn S H) (n : H q = none) : hide S (upd H q o) q = some o := by
  rw [hide_off (k.off n), upd_same]
/-- this data, away from S -/
def dq (K : PySem.W.Frag) (w : World) (S : List Addr) (d : PyData) : Pr := fun v H => Dr K w (hide S H) v d
theorem dq.but (e : But S H H') (h : dq K w S d v H) : dq K w S d v H' := Dr.mono e d v h
theorem mono_dq : Mono (dq K w S d) := fun v H H' e h => Dr.mono (But.of e) d v h
theorem dqAll_map : ∀ {ds : List PyData} {vs : List V}, AllP (ds.map (dq K w S)) vs H → DrAll K w (hide S H) vs ds
  | [], [], _ => .nil
  | _ :: _, _ :: _, h => .cons h.1 (dqAll_map h.2)
  | [], _ :: _, h => h.elim
  | _ :: _, [], h => h.elim
theorem evp_dqC {x : V} (h : EvP te σ H (is x)) (hd : ∀ H', Dr K w H' x d) : EvP te σ H (dq K w S d) := h.to fun v H' _ hv => by
  obtain rfl : v = x := hv
  exact hd _
theorem evs_dq (h : EvP te σ H (dq K w S d)) (hr : EvPs ta σ H (ds.map (dq K w S))) : EvPs (tCons te ta) σ H ((d :: ds).map (dq K w S)) := evs_cons h mono_dq hr
theorem evp_dqL (k : Kn S H) (h : EvPs ta σ H (ds.map (dq K w S))) (hl : ds.length ≤ 1000) : EvP (tLstN ta) σ H (dq K w S (.list ds)) := fun H1 e Q q0 =>
  h H1 e _ fun vs H2 e2 a => ⟨Nat.le_of_lt (small1000 (by rw [a.len, List.length_map]; exact hl)), fun r hr nr =>
    q0 (.ref r) _ (e2.trans (Ex.new hr)) (.lst nr (SqL.of (hide_new (k.ex (e.trans e2)) hr)) (DrAll.mono (But.of (Ex.new hr)) ds _ (dqAll_map a)))⟩
theorem evp_dqT (k : Kn S H) (h : EvPs ta σ H (ds.map (dq K w S))) (hl : ds.length ≤ 1000) : EvP (tTup ta) σ H (dq K w S (.tuple ds)) := fun H1 e Q q0 =>
  h H1 e _ fun vs H2 e2 a => ⟨Nat.le_of_lt (small1000 (by rw [a.len, List.length_map]; exact hl)), fun r hr =>
    q0 (.ref r) _ (e2.trans (Ex.new hr)) (.tup (SqT.of (hide_new (k.ex (e.trans e2)) hr)) (DrAll.mono (But.of (Ex.new hr)) ds _ (dqAll_map a)))⟩
theorem sub_lst {vv : V} (h : Dr K w H vv (.list ds)) : ∃ a xs, vv = .ref a ∧ SqL K H a xs ∧ DrAll K w H xs ds := by
  cases h with
  | lst _ h1 h2 => exact ⟨_, _, rfl, h1, h2⟩
theorem sub_tup {vv : V} (h : Dr K w H vv (.tuple ds)) : ∃ a xs, vv = .ref a ∧ SqT K H a xs ∧ DrAll K w H xs ds := by
  cases h with
  | tup h1 h2 => exact ⟨_, _, rfl, h1, h2⟩
theorem drAll_len : ∀ {ds : List PyData} {vs : List V}, DrAll K w H vs ds → vs.length = ds.length
  | [], _, h => by cases h; rfl
  | d :: ds, _, h => by
    cases h with
    | cons _ h2 => rw [List.length_cons, List.length_cons, drAll_len h2]
theorem drAll_get : ∀ {ds : List PyData} {vs : List V} {j : Nat} {d : PyData}, DrAll K w H vs ds → ds[j]? = some d → ∃ v, vs[j]? = some v ∧ Dr K w H v d
  | d :: ds, _, 0, _, h, e => by
    cases h with
    | cons h1 _ =>
      obtain rfl := Option.some.inj e
      exact ⟨_, rfl, h1⟩
  | d :: ds, _, j + 1, _, h, e => by
    cases h with
    | cons _ h2 =>
      obtain ⟨v, h3, h4⟩ := drAll_get (j := j) h2 (by simpa using e)
      exact ⟨v, by simpa using h3, h4⟩
  | [], _, _, _, _, e => by simp at e
end
/-! ### the source -/
/-- the source's entries -/
abbrev sKv (c : Addr) (l m t : Int) : List (Key × V) := [(.inr "cells", .ref c), (.inr "left", .int l), (.inr "mixed", .int m), (.inr "turn", .int t)]
/-- the source of draws at p, its cells at c -/
def Src (H : Hp) (p c : Addr) : Prop := ∃ (cells : List Int) (l m t : Int), H p = some (.dK (sKv c l m t)) ∧ H c = some (.lst (cells.map V.int))
section
variable {H H' : Hp} {p c : Addr} {l m t : Int}
theorem Src.ex (h : Src H p c) (e : Ex H H') : Src H' p c := by
  obtain ⟨cells, l, m, t, h1, h2⟩ := h
  exact ⟨cells, l, m, t, e _ _ h1, e _ _ h2⟩
theorem Src.off {q : Addr} {o : HO} (h : Src H p c) (n : q ∉ [p, c]) : Src (upd H q o) p c := by
  obtain ⟨cells, l, m, t, h1, h2⟩ := h
  exact ⟨cells, l, m, t, by rw [upd_ne (fun z => n (by rw [← z]; simp))]; exact h1, by rw [upd_ne (fun z => n (by rw [← z]; simp))]; exact h2⟩
theorem Src.kn (h : Src H p c) : Kn [p, c] H := fun b hb => by
  obtain ⟨cells, l, m, t, h1, h2⟩ := h
  simp only [List.mem_cons, List.not_mem_nil, or_false] at hb
  rcases hb with rfl | rfl
  · exact ⟨_, h1⟩
  · exact ⟨_, h2⟩
theorem g_cells (h : H p = some (.dK (sKv c l m t))) : DGet H p (.str "cells") (some (.ref c)) := DGet.k (k := Sum.inr "cells") h
theorem g_left (h : H p = some (.dK (sKv c l m t))) : DGet H p (.str "left") (some (.int l)) := DGet.k (k := Sum.inr "left") h
theorem g_mixed (h : H p = some (.dK (sKv c l m t))) : DGet H p (.str "mixed") (some (.int m)) := DGet.k (k := Sum.inr "mixed") h
theorem g_turn (h : H p = some (.dK (sKv c l m t))) : DGet H p (.str "turn") (some (.int t)) := DGet.k (k := Sum.inr "turn") h
theorem p_left (h : H p = some (.dK (sKv c l m t))) (x : Int) : DPut H p (.str "left") (.int x) (upd H p (.dK (sKv c x m t))) :=
  DPut.k (k := Sum.inr "left") h (small1000 (by show (4 : Nat) ≤ 1000; decide))
theorem p_turn (h : H p = some (.dK (sKv c l m t))) (x : Int) : DPut H p (.str "turn") (.int x) (upd H p (.dK (sKv c l m x))) :=
  DPut.k (k := Sum.inr "turn") h (small1000 (by show (4 : Nat) ≤ 1000; decide))
end
/-- how many cells are left -/
def lenAt (c : Addr) (H : Hp) : Nat := match H c with
  | some (.lst xs) => xs.length
  | _ => 0
def spSource (K : PySem.W.Frag) : Sp := fun vs H Q _ => ∃ (a : Addr) (ns : List Int), vs = [.ref a] ∧ SqL K H a (ns.map V.int) ∧ ns.length ≤ 63 ∧
  ∀ p c H', H p = none → H c = none → Ex H H' → Src H' p c → Q (.ref p) H'
def spPick : Sp := fun vs H Q _ => ∃ (p c : Addr) (n : Int), vs = [.ref p, .int n] ∧ Src H p c ∧ 1 ≤ n ∧ n < 1000000 ∧
  ∀ r H', 0 ≤ r → r < n → Src H' p c → But [p, c] H H' → Q (.int r) H'
/-- a list of such data, away from S (it may be any list) -/
def lq (K : PySem.W.Frag) (w : World) (S : List Addr) (ds : List PyData) : Pr := fun v H => ∃ a xs, v = .ref a ∧ SqL K (hide S H) a xs ∧ DrAll K w (hide S H) xs ds
theorem lq.but {K : PySem.W.Frag} {w : World} {S : List Addr} {ds : List PyData} {v : V} {H H' : Hp} (e : But S H H') (h : lq K w S ds v H) : lq K w S ds v H' := by
  obtain ⟨a, xs, rfl, h1, h2⟩ := h
  exact ⟨a, xs, rfl, Evl.ex_l e h1, DrAll.mono e _ _ h2⟩
theorem lq.of {K : PySem.W.Frag} {w : World} {S : List Addr} {ds : List PyData} {v : V} {H : Hp} (h : dq K w S (.list ds) v H) : lq K w S ds v H := by
  obtain ⟨a, xs, e, h1, h2⟩ := sub_lst h
  exact ⟨a, xs, e, h1, h2⟩
/-- one of a list -/
def spOf (K : PySem.W.Frag) : Sp := fun vs H Q _ => ∃ (p c a : Addr) (xs : List V), vs = [.ref p, .ref a] ∧ Src H p c ∧ SqL K (hide [p, c] H) a xs ∧ 1 ≤ xs.length ∧ xs.length ≤ 1000 ∧
  ∀ (j : Nat) v H', xs[j]? = some v → Src H' p c → But [p, c] H H' → Q v H'
theorem depth_ints : ∀ ns : List Int, PyData.depthAll (ns.map .int) = 0
  | [] => by simp [PyData.depthAll]
  | n :: r => by simp [PyData.depthAll, PyData.depth, depth_ints r]
theorem shaped_ints (ns : List Int) : SeqAt.shaped (.list (ns.map .int)) = true := by
  unfold SeqAt.shaped
  rw [Bool.and_eq_true]
  refine ⟨by simp only [PyData.canLay0, canLayAll_ints], ?_⟩
  simp [PyData.depth, depth_ints]
theorem dp_ints {K : PySem.W.Frag} {H : Hp} : ∀ ns : List Int, DpAll K H (ns.map V.int) (ns.map PyData.int)
  | [] => .nil
  | n :: r => .cons (.int n) (dp_ints r)
/-- a tuple away from S stands while a list is another -/
theorem sqt_off {K : PySem.W.Frag} {S : List Addr} {H : Hp} {r a : Addr} {ys zs xs : List V} (hr : H r = some (.lst ys)) (h : SqT K (hide S H) a xs) : SqT K (hide S (upd H r (.lst zs))) a xs := by
  have go : ∀ o, (∀ ws, o ≠ HO.lst ws) → hide S H a = some o → hide S (upd H r (.lst zs)) a = some o := fun o no ha => by
    by_cases z : a ∈ S
    · rw [hide, if_pos z] at ha
      cases ha
    · rw [hide, if_neg z] at ha ⊢
      rw [upd_ne (fun e => no ys (by rw [e, hr] at ha; exact (Option.some.inj ha).symm))]
      exact ha
  rcases h with (h | ⟨o, h⟩) | h
  · exact .inl (.inl (go _ (fun ws q => by cases q) h))
  · exact .inl (.inr ⟨o, go _ (fun ws q => by cases q) h⟩)
  · exact .inr h
theorem sqt_new {K : PySem.W.Frag} {S : List Addr} {H : Hp} {a : Addr} {xs : List V} (k : Kn S H) (n : H a = none) : SqT K (hide S (upd H a (.tup xs))) a xs := SqT.of (hide_new k n)
theorem cut_from {xs : List V} {j : Nat} (h : j ≤ xs.length) : cutV xs (some (j : Int)) none = xs.drop j := by
  unfold cutV
  rw [HT.sIx_nat, HT.sIx_none, Nat.min_eq_left h, List.take_of_length_le (by rw [List.length_drop]; omega)]
theorem cut_to {xs : List V} {j : Nat} (h : j ≤ xs.length) : cutV xs none (some (j : Int)) = xs.take j := by
  unfold cutV
  rw [HT.sIx_nat, HT.sIx_none, Nat.min_eq_left h, List.drop_zero, Nat.sub_zero]
theorem units65 {k : Nat} {A : Around} (r : Room k A) : A.units + 65 < cLine := by have := r.un; omega
theorem op_in_seqK {X : Cx} {K : PySem.W.Frag} (hK : X.K = K := by rfl) : OpR X (compareOp .In) (rIn K false) := by
  subst hK
  exact op_in_seq
theorem sl_listK {X : Cx} {K : PySem.W.Frag} (hK : X.K = K := by rfl) : SlR X (rSlL K) := by
  subst hK
  exact sl_list
theorem op_inDK {X : Cx} {K : PySem.W.Frag} (hu : X.A.units + 65 < cLine) (hK : X.K = K := by rfl) : OpR X (compareOp .In) (rInD K) := by
  subst hK
  exact op_inD hu
theorem op_notInDK {X : Cx} {K : PySem.W.Frag} (hu : X.A.units + 65 < cLine) (hK : X.K = K := by rfl) : OpR X (compareOp .NotIn) (rNotInD K) := by
  subst hK
  exact op_notInD hu
end L2.Vf
/-! Keys as data. -/
namespace L2.Vf
open PySem PySem.Spec PyProof.Rows
open Evl (Ex Ev EvT EvL EvA)
mutual
theorem KeyV.dp {K : PySem.W.Frag} {H : Hp} : ∀ (k : NestedKey) (v : V), KeyV K H k v → Dp K H v k.data
  | .none, _, h => by cases h; exact .non
  | .num i, _, h => by cases h; exact .int i
  | .text x, _, h => by cases h; exact .str x
  | .tup ks, _, h => by
    cases h with
    | tup h1 h2 => exact .tup h1 (KeyVs.dp ks _ h2)
theorem KeyVs.dp {K : PySem.W.Frag} {H : Hp} : ∀ (ks : List NestedKey) (vs : List V), KeyVs K H ks vs → DpAll K H vs (NestedKey.datas ks)
  | [], _, h => by cases h; exact .nil
  | k :: ks, _, h => by
    cases h with
    | cons h1 h2 => exact .cons (KeyV.dp k _ h1) (KeyVs.dp ks _ h2)
end
mutual
theorem KeyV.dr {K : PySem.W.Frag} {w : World} {H : Hp} : ∀ (k : NestedKey) (v : V), KeyV K H k v → Dr K w H v k.data
  | .none, _, h => by cases h; exact .non
  | .num i, _, h => by cases h; exact .int i
  | .text x, _, h => by cases h; exact .str x
  | .tup ks, _, h => by
    cases h with
    | tup h1 h2 => exact .tup h1 (KeyVs.dr ks _ h2)
theorem KeyVs.dr {K : PySem.W.Frag} {w : World} {H : Hp} : ∀ (ks : List NestedKey) (vs : List V), KeyVs K H ks vs → DrAll K w H vs (NestedKey.datas ks)
  | [], _, h => by cases h; exact .nil
  | k :: ks, _, h => by
    cases h with
    | cons h1 h2 => exact .cons (KeyV.dr k _ h1) (KeyVs.dr ks _ h2)
end
mutual
theorem eqv_key : ∀ k : NestedKey, PyData.eqv k.data k.data = true
  | .none => by simp [NestedKey.data, PyData.eqv]
  | .num i => by simp [NestedKey.data, PyData.eqv]
  | .text x => by simp [NestedKey.data, PyData.eqv]
  | .tup ks => by
    simp only [NestedKey.data, PyData.eqv]
    exact eqv_keys ks
theorem eqv_keys : ∀ ks : List NestedKey, PyData.eqvAll (NestedKey.datas ks) (NestedKey.datas ks) = true
  | [] => by simp [NestedKey.datas, PyData.eqvAll]
  | k :: ks => by
    simp only [NestedKey.datas, PyData.eqvAll, eqv_key k, eqv_keys ks, Bool.and_self]
end
theorem datas_map : ∀ ks : List NestedKey, NestedKey.datas ks = ks.map NestedKey.data
  | [] => rfl
  | k :: ks => by rw [NestedKey.datas, List.map_cons, datas_map ks]
section
variable {K : PySem.W.Frag} {σ : St} {H H' : Hp} {S : List Addr} {ta : TA} {te : TE} {ks : List NestedKey} {k : NestedKey} {v : V} {vs : List V}
theorem KeyV.but (e : But S H H') (h : KeyV K (hide S H) k v) : KeyV K (hide S H') k v := KeyV.mono e k v h
theorem KeyVs.but (e : But S H H') (h : KeyVs K (hide S H) ks vs) : KeyVs K (hide S H') ks vs := KeyVs.to (Evl.ex_t e) ks vs h
theorem keyVs_len : ∀ {ks : List NestedKey} {vs : List V}, KeyVs K H ks vs → vs.length = ks.length
  | [], _, h => by cases h; rfl
  | k :: ks, _, h => by
    cases h with
    | cons _ h2 => rw [List.length_cons, List.length_cons, keyVs_len h2]
theorem keyVs_get : ∀ {ks : List NestedKey} {vs : List V} {j : Nat} {k : NestedKey}, KeyVs K H ks vs → ks[j]? = some k → ∃ v, vs[j]? = some v ∧ KeyV K H k v
  | k :: ks, _, 0, _, h, e => by
    cases h with
    | cons h1 _ =>
      obtain rfl := Option.some.inj e
      exact ⟨_, rfl, h1⟩
  | k :: ks, _, j + 1, _, h, e => by
    cases h with
    | cons _ h2 =>
      obtain ⟨v, h3, h4⟩ := keyVs_get (j := j) h2 (by simpa using e)
      exact ⟨v, by simpa using h3, h4⟩
  | [], _, _, _, _, e => by simp at e
theorem keyVs_snoc : ∀ {ks : List NestedKey} {vs : List V}, KeyVs K H ks vs → KeyV K H k v → KeyVs K H (ks ++ [k]) (vs ++ [v])
  | [], _, h, g => by cases h; exact .cons g .nil
  | k :: ks, _, h, g => by
    cases h with
    | cons h1 h2 => exact .cons h1 (keyVs_snoc h2 g)
/-- this key, away from S -/
def kq (K : PySem.W.Frag) (S : List Addr) (k : NestedKey) : Pr := fun v H => KeyV K (hide S H) k v
theorem mono_kq : Mono (kq K S k) := fun v H H' e h => KeyV.but (But.of e) h
theorem keyVs_of : ∀ {ks : List NestedKey} {vs : List V}, AllP (ks.map (kq K S)) vs H → KeyVs K (hide S H) ks vs
  | [], [], _ => .nil
  | _ :: _, _ :: _, h => .cons h.1 (keyVs_of h.2)
  | [], _ :: _, h => h.elim
  | _ :: _, [], h => h.elim
theorem evp_kC {x : V} (h : EvP te σ H (is x)) (hd : ∀ H', KeyV K H' k x) : EvP te σ H (kq K S k) := h.to fun v H' _ hv => by
  obtain rfl : v = x := hv
  exact hd _
theorem evs_kq (h : EvP te σ H (kq K S k)) (hr : EvPs ta σ H (ks.map (kq K S))) : EvPs (tCons te ta) σ H ((k :: ks).map (kq K S)) := evs_cons h mono_kq hr
theorem evp_kT (n : Kn S H) (h : EvPs ta σ H (ks.map (kq K S))) (hl : ks.length ≤ 1000) : EvP (tTup ta) σ H (kq K S (.tup ks)) := fun H1 e Q q0 =>
  h H1 e _ fun vs H2 e2 a => ⟨Nat.le_of_lt (small1000 (by rw [a.len, List.length_map]; exact hl)), fun r hr =>
    q0 (.ref r) _ (e2.trans (Ex.new hr)) (.tup (SqT.of (hide_new (n.ex (e.trans e2)) hr)) (KeyVs.but (But.of (Ex.new hr)) (keyVs_of a)))⟩
/-- a new list of keys -/
def klF (K : PySem.W.Frag) (S : List Addr) (H0 : Hp) (ks : List NestedKey) : Pr := fun v H => ∃ a vs, v = .ref a ∧ H0 a = none ∧ H a = some (.lst vs) ∧ KeyVs K (hide S H) ks vs
theorem evp_kL (h : EvPs ta σ H (ks.map (kq K S))) (hl : ks.length ≤ 1000) : EvP (tLst ta) σ H (klF K S H ks) := fun H1 e Q q0 =>
  h H1 e _ fun vs H2 e2 a => ⟨Nat.le_of_lt (small1000 (by rw [a.len, List.length_map]; exact hl)), fun r hr =>
    q0 (.ref r) _ (e2.trans (Ex.new hr)) ⟨r, vs, rfl, Evl.fresh_back (e.trans e2) hr, upd_same, KeyVs.but (But.of (Ex.new hr)) (keyVs_of a)⟩⟩
/-- a list of these keys -/
def kl (K : PySem.W.Frag) (S : List Addr) (ks : List NestedKey) : Pr := fun v H => ∃ a vs, v = .ref a ∧ SqL K (hide S H) a vs ∧ KeyVs K (hide S H) ks vs
theorem kl.but (e : But S H H') (h : kl K S ks v H) : kl K S ks v H' := by
  obtain ⟨a, vs, rfl, h1, h2⟩ := h
  exact ⟨a, vs, rfl, Evl.ex_l e h1, h2.but e⟩
/-- keys stand while a list is another -/
theorem KeyV.offL {r : Addr} {ys zs : List V} (hr : H r = some (.lst ys)) (h : KeyV K (hide S H) k v) : KeyV K (hide S (upd H r (.lst zs))) k v := KeyV.to (fun g => sqt_off hr g) k v h
theorem KeyVs.offL {r : Addr} {ys zs : List V} (hr : H r = some (.lst ys)) (h : KeyVs K (hide S H) ks vs) : KeyVs K (hide S (upd H r (.lst zs))) ks vs := KeyVs.to (fun g => sqt_off hr g) ks vs h
end
end L2.Vf
/-! Terms, as they stand in the heap: variables and made terms, tuples all the way down. -/
namespace L2.Vf
open PySem PySem.Spec PyProof.Rows
open Evl (Ex Ev EvT EvL EvA)
inductive Tm where
  | var (k : NestedKey)
  | of (x : Str) (ts : List Tm)
mutual
def Tm.data : Tm → PyData
  | .var k => .tuple [.str "var", k.data]
  | .of x ts => .tuple [.str "of", .str x, .tuple (Tm.datas ts)]
def Tm.datas : List Tm → List PyData
  | [] => []
  | t :: ts => t.data :: Tm.datas ts
end
mutual
inductive TmV (K : PySem.W.Frag) (H : Hp) : Tm → V → Prop
  | var {a : Addr} {k : NestedKey} {v : V} : SqT K H a [.str "var", v] → KeyV K H k v → k.depth ≤ 8 → TmV K H (.var k) (.ref a)
  | of {a b : Addr} {x : Str} {ts : List Tm} {vs : List V} : SqT K H a [.str "of", .str x, .ref b] → SqT K H b vs → TmVs K H ts vs → ts.length ≤ 10 → TmV K H (.of x ts) (.ref a)
inductive TmVs (K : PySem.W.Frag) (H : Hp) : List Tm → List V → Prop
  | nil : TmVs K H [] []
  | cons {t : Tm} {v : V} {ts : List Tm} {vs : List V} : TmV K H t v → TmVs K H ts vs → TmVs K H (t :: ts) (v :: vs)
end
mutual
theorem TmV.to {K : PySem.W.Frag} {H H' : Hp} (e : ∀ {a : Addr} {xs : List V}, SqT K H a xs → SqT K H' a xs) : ∀ (t : Tm) (v : V), TmV K H t v → TmV K H' t v
  | .var k, _, h => by
    cases h with
    | var h1 h2 h3 => exact .var (e h1) (KeyV.to e _ _ h2) h3
  | .of x ts, _, h => by
    cases h with
    | of h1 h2 h3 h4 => exact .of (e h1) (e h2) (TmVs.to e ts _ h3) h4
theorem TmVs.to {K : PySem.W.Frag} {H H' : Hp} (e : ∀ {a : Addr} {xs : List V}, SqT K H a xs → SqT K H' a xs) : ∀ (ts : List Tm) (vs : List V), TmVs K H ts vs → TmVs K H' ts vs
  | [], _, h => by cases h; exact .nil
  | t :: ts, _, h => by
    cases h with
    | cons h1 h2 => exact .cons (TmV.to e t _ h1) (TmVs.to e ts _ h2)
end
mutual
theorem TmV.dr {K : PySem.W.Frag} {w : World} {H : Hp} : ∀ (t : Tm) (v : V), TmV K H t v → Dr K w H v t.data
  | .var k, _, h => by
    cases h with
    | var h1 h2 _ => exact .tup h1 (.cons (.str _) (.cons (KeyV.dr _ _ h2) .nil))
  | .of x ts, _, h => by
    cases h with
    | of h1 h2 h3 _ => exact .tup h1 (.cons (.str _) (.cons (.str _) (.cons (.tup h2 (TmVs.dr ts _ h3)) .nil)))
theorem TmVs.dr {K : PySem.W.Frag} {w : World} {H : Hp} : ∀ (ts : List Tm) (vs : List V), TmVs K H ts vs → DrAll K w H vs (Tm.datas ts)
  | [], _, h => by cases h; exact .nil
  | t :: ts, _, h => by
    cases h with
    | cons h1 h2 => exact .cons (TmV.dr t _ h1) (TmVs.dr ts _ h2)
end
mutual
theorem TmV.dp {K : PySem.W.Frag} {H : Hp} : ∀ (t : Tm) (v : V), TmV K H t v → Dp K H v t.data
  | .var k, _, h => by
    cases h with
    | var h1 h2 _ => exact .tup h1 (.cons (.str _) (.cons (KeyV.dp _ _ h2) .nil))
  | .of x ts, _, h => by
    cases h with
    | of h1 h2 h3 _ => exact .tup h1 (.cons (.str _) (.cons (.str _) (.cons (.tup h2 (TmVs.dp ts _ h3)) .nil)))
theorem TmVs.dp {K : PySem.W.Frag} {H : Hp} : ∀ (ts : List Tm) (vs : List V), TmVs K H ts vs → DpAll K H vs (Tm.datas ts)
  | [], _, h => by cases h; exact .nil
  | t :: ts, _, h => by
    cases h with
    | cons h1 h2 => exact .cons (TmV.dp t _ h1) (TmVs.dp ts _ h2)
end
section
variable {K : PySem.W.Frag} {H H' : Hp} {S : List Addr} {t : Tm} {ts : List Tm} {v : V} {vs : List V}
theorem TmV.but (e : But S H H') (h : TmV K (hide S H) t v) : TmV K (hide S H') t v := TmV.to (Evl.ex_t e) t v h
theorem TmVs.but (e : But S H H') (h : TmVs K (hide S H) ts vs) : TmVs K (hide S H') ts vs := TmVs.to (Evl.ex_t e) ts vs h
theorem TmV.offL {r : Addr} {ys zs : List V} (hr : H r = some (.lst ys)) (h : TmV K (hide S H) t v) : TmV K (hide S (upd H r (.lst zs))) t v := TmV.to (fun g => sqt_off hr g) t v h
theorem TmVs.offL {r : Addr} {ys zs : List V} (hr : H r = some (.lst ys)) (h : TmVs K (hide S H) ts vs) : TmVs K (hide S (upd H r (.lst zs))) ts vs := TmVs.to (fun g => sqt_off hr g) ts vs h
theorem tmVs_len : ∀ {ts : List Tm} {vs : List V}, TmVs K H ts vs → vs.length = ts.length
  | [], _, h => by cases h; rfl
  | t :: ts, _, h => by
    cases h with
    | cons _ h2 => rw [List.length_cons, List.length_cons, tmVs_len h2]
theorem tmVs_snoc : ∀ {ts : List Tm} {vs : List V}, TmVs K H ts vs → TmV K H t v → TmVs K H (ts ++ [t]) (vs ++ [v])
  | [], _, h, g => by cases h; exact .cons g .nil
  | t :: ts, _, h, g => by
    cases h with
    | cons h1 h2 => exact .cons h1 (tmVs_snoc h2 g)
/-- this term, away from S -/
def tq (K : PySem.W.Frag) (S : List Addr) (t : Tm) : Pr := fun v H => TmV K (hide S H) t v
end
mutual
/-- a term over these primitives and variables, at most so deep -/
def TmIn (qs : List (Str × Nat)) (ks : List NestedKey) : Nat → Tm → Prop
  | _, .var k => k ∈ ks
  | 0, .of _ _ => False
  | d + 1, .of x ts => (x, ts.length) ∈ qs ∧ TmsIn qs ks d ts
def TmsIn (qs : List (Str × Nat)) (ks : List NestedKey) : Nat → List Tm → Prop
  | _, [] => True
  | d, t :: ts => TmIn qs ks d t ∧ TmsIn qs ks d ts
end
theorem tmsIn_snoc {qs : List (Str × Nat)} {ks : List NestedKey} {d : Nat} {t : Tm} : ∀ {ts : List Tm}, TmsIn qs ks d ts → TmIn qs ks d t → TmsIn qs ks d (ts ++ [t])
  | [], _, g => by
    unfold TmsIn
    exact ⟨g, by unfold TmsIn; trivial⟩
  | u :: ts, h, g => by
    unfold TmsIn at h
    show TmsIn qs ks d (u :: (ts ++ [t]))
    unfold TmsIn
    exact ⟨h.1, tmsIn_snoc h.2 g⟩
theorem units40 {k : Nat} {A : Around} (r : Room k A) : A.units + 40 < cLine := by have := r.un; omega
/-! ### tables of terms -/
abbrev Tb := List (NestedKey × Tm)
def tLook (tb : Tb) (k : NestedKey) : Option Tm := (tb.find? fun p => decide (p.1 = k)).map (·.2)
mutual
def Tm.put (tb : Tb) : Tm → Tm
  | .var k => (tLook tb k).getD (.var k)
  | .of x ts => .of x (Tm.puts tb ts)
def Tm.puts (tb : Tb) : List Tm → List Tm
  | [] => []
  | t :: ts => t.put tb :: Tm.puts tb ts
end
mutual
def Tm.deep : Tm → Nat
  | .var _ => 0
  | .of _ ts => Tm.deeps ts + 1
def Tm.deeps : List Tm → Nat
  | [] => 0
  | t :: ts => max t.deep (Tm.deeps ts)
end
/-- the rows of a table -/
abbrev TbR (K : PySem.W.Frag) (H : Hp) : List Mv → Tb → Prop := Paired fun (r : Mv) q => r.1 = q.1 ∧ TmV K H q.2 r.2.2
/-- this table, away from S -/
def bq (K : PySem.W.Frag) (w : World) (S : List Addr) (tb : Tb) : Pr := fun v H => ∃ d ks, v = .ref d ∧ Mx K (hide S H) w d ks ∧ TbR K (hide S H) ks tb
theorem tbR_look {K : PySem.W.Frag} {H : Hp} {ks : List Mv} {tb : Tb} (h : TbR K H ks tb) (k : NestedKey) : (vM ks k = none ∧ tLook tb k = none) ∨ ∃ v t, vM ks k = some v ∧ tLook tb k = some t ∧ TmV K H t v := by
  induction h with
  | nil => exact .inl ⟨rfl, rfl⟩
  | @cons r q rs qs hr _ ih =>
    obtain ⟨e, ht⟩ := hr
    unfold vM tLook
    rw [List.find?_cons, List.find?_cons]
    by_cases z : r.1 = k
    · rw [decide_eq_true z, decide_eq_true (e ▸ z)]
      exact .inr ⟨_, _, rfl, rfl, ht⟩
    · rw [decide_eq_false z, decide_eq_false (e ▸ z)]
      exact ih
theorem tbR_mono {K : PySem.W.Frag} {H H' : Hp} {ks : List Mv} {tb : Tb} (e : ∀ {a : Addr} {xs : List V}, SqT K H a xs → SqT K H' a xs) (h : TbR K H ks tb) : TbR K H' ks tb := by
  induction h with
  | nil => exact .nil
  | cons hr _ ih => exact .cons ⟨hr.1, TmV.to e _ _ hr.2⟩ ih
theorem bq.but {K : PySem.W.Frag} {w : World} {S : List Addr} {tb : Tb} {v : V} {H H' : Hp} (e : But S H H') (h : bq K w S tb v H) : bq K w S tb v H' := by
  obtain ⟨d, ks, rfl, h1, h2⟩ := h
  exact ⟨d, ks, rfl, h1.mono e, tbR_mono (Evl.ex_t e) h2⟩
theorem tmVs_take : ∀ {K : PySem.W.Frag} {H : Hp} {ts : List Tm} {vs : List V} {i : Nat} {v : V}, TmVs K H ts vs → vs[i]? = some v → ∃ t, ts[i]? = some t ∧ TmV K H t v
  | K, H, t :: ts, _, 0, v, h, e => by
    cases h with
    | cons h1 _ =>
      obtain rfl := Option.some.inj e
      exact ⟨t, rfl, h1⟩
  | K, H, t :: ts, _, i + 1, v, h, e => by
    cases h with
    | cons _ h2 =>
      obtain ⟨u, h3, h4⟩ := tmVs_take (i := i) h2 (by simpa using e)
      exact ⟨u, by simpa using h3, h4⟩
  | K, H, [], _, _, _, h, e => by
    cases h
    simp at e
theorem deep_le : ∀ {ts : List Tm} {i : Nat} {t : Tm}, ts[i]? = some t → t.deep ≤ Tm.deeps ts
  | t :: ts, 0, u, e => by
    obtain rfl := Option.some.inj e
    unfold Tm.deeps
    omega
  | t :: ts, i + 1, u, e => by
    have := deep_le (ts := ts) (i := i) (by simpa using e)
    unfold Tm.deeps
    omega
  | [], _, _, e => by simp at e
theorem puts_map (tb : Tb) : ∀ ts : List Tm, Tm.puts tb ts = ts.map (Tm.put tb)
  | [] => rfl
  | t :: ts => by rw [Tm.puts, List.map_cons, puts_map tb ts]
/-- a dict that is written elsewhere may be read here -/
theorem Mx.shown {K : PySem.W.Frag} {w : World} {S : List Addr} {d : Addr} {ks : List Mv} {H : Hp} (h : Mx K (hide S H) w d ks) : Mx K H w d ks := h.mono hide_ex
theorem hide_upd {S : List Addr} {H : Hp} {d : Addr} {o : HO} (n : d ∉ S) : hide S (upd H d o) = upd (hide S H) d o := by
  funext b
  by_cases hb : b = d
  · rw [hb, upd_same, hide_off n, upd_same]
  · rw [upd_ne hb]
    by_cases z : b ∈ S
    · rw [hide, if_pos z, hide, if_pos z]
    · rw [hide, if_neg z, hide, if_neg z, upd_ne hb]
def tPut (tb : Tb) (k : NestedKey) (t : Tm) : Tb := if (tLook tb k).isSome = true then tb.map (fun p => if p.1 = k then (p.1, t) else p) else tb ++ [(k, t)]
theorem tbR_put {K : PySem.W.Frag} {H : Hp} {ks : List Mv} {tb : Tb} (h : TbR K H ks tb) (k : NestedKey) {y v : V} {t : Tm} (ht : TmV K H t v) : TbR K H (pM ks k y v) (tPut tb k t) := by
  have same : (vM ks k).isSome = (tLook tb k).isSome := by
    rcases tbR_look h k with ⟨e1, e2⟩ | ⟨_, _, e1, e2, _⟩
    · rw [e1, e2]; rfl
    · rw [e1, e2]; rfl
  unfold pM tPut
  rw [← same]
  split
  · rename_i g
    clear g same
    induction h with
    | nil => exact .nil
    | @cons r q rs qs hr _ ih =>
      refine .cons ?_ ih
      obtain ⟨e, h2⟩ := hr
      dsimp only
      by_cases z : r.1 = k
      · rw [if_pos z, if_pos (e ▸ z)]
        exact ⟨e, ht⟩
      · rw [if_neg z, if_neg (e ▸ z)]
        exact ⟨e, h2⟩
  · exact Paired.snoc h ⟨rfl, ht⟩
/-- a table that may be written stands at d, away from S -/
def TabAt (K : PySem.W.Frag) (w : World) (S : List Addr) (H : Hp) (d : Addr) (tb : Tb) : Prop := ∃ mv : List Mv, H d = some (mxo d w mv) ∧ d ∉ S ∧ Mx K (hide S H) w d mv ∧ TbR K (hide S H) mv tb
section
variable {K : PySem.W.Frag} {w : World} {S : List Addr} {H H' : Hp} {d : Addr} {tb : Tb} {k : NestedKey} {t : Tm} {y v : V}
theorem TabAt.but (e : But S H H') (h : TabAt K w S H d tb) : TabAt K w S H' d tb := by
  obtain ⟨mv, h1, h2, h3, h4⟩ := h
  exact ⟨mv, e.get h2 h1, h2, h3.mono e, tbR_mono (Evl.ex_t e) h4⟩
theorem TabAt.bq (h : TabAt K w S H d tb) : bq K w S tb (.ref d) H := by
  obtain ⟨mv, _, _, h3, h4⟩ := h
  exact ⟨d, mv, rfl, h3, h4⟩
theorem TabAt.new (kn : Kn S H) (n : H d = none) (hs : (d == sysModules) = false) : TabAt K w S (upd H d (mxo d w [])) d [] :=
  ⟨[], upd_same, kn.off n, by rw [hide_upd (kn.off n)]; exact Mx.new hs, .nil⟩
theorem tPut_len (tb : Tb) (k : NestedKey) (t : Tm) : (tPut tb k t).length ≤ tb.length + 1 := by
  unfold tPut
  split
  · rw [List.length_map]
    omega
  · simp
theorem TabAt.len (h : TabAt K w S H d tb) : ∃ mv : List Mv, H d = some (mxo d w mv) ∧ mv.length = tb.length := by
  obtain ⟨mv, h1, _, _, h4⟩ := h
  exact ⟨mv, h1, Paired.length h4⟩
theorem TabAt.put (h : TabAt K w S H d tb) (hk : KeyV K (hide S H) k y) (dk : k.depth ≤ 8) (ht : TmV K (hide S H) t v) (l : tb.length < 1000) :
    ∃ mv : List Mv, Mx K H w d mv ∧ H d = some (mxo d w mv) ∧ mv.length < 1000 ∧ TabAt K w S (upd H d (mxo d w (pM mv k y v))) d (tPut tb k t) := by
  obtain ⟨mv, h1, h2, h3, h4⟩ := h
  have lm : mv.length = tb.length := Paired.length h4
  have ow : hide S H d = some (mxo d w mv) := by rw [hide_off h2]; exact h1
  refine ⟨mv, h3.shown, h1, by omega, pM mv k y v, upd_same, h2, ?_, ?_⟩
  · rw [hide_upd h2]
    exact h3.put ow hk dk (by omega)
  · rw [hide_upd h2]
    exact tbR_mono (fun g => off_ext ow g) (tbR_put h4 k ht)
end
mutual
theorem tmIn_mono {qs : List (Str × Nat)} {ks : List NestedKey} : ∀ (t : Tm) {d e : Nat}, d ≤ e → TmIn qs ks d t → TmIn qs ks e t
  | .var k, d, e, _, h => by
    unfold TmIn at h ⊢
    exact h
  | .of x ts, d, e, l, h => by
    cases d with
    | zero =>
      unfold TmIn at h
      exact h.elim
    | succ d =>
      cases e with
      | zero => omega
      | succ e =>
        unfold TmIn at h ⊢
        exact ⟨h.1, tmsIn_mono ts (by omega) h.2⟩
theorem tmsIn_mono {qs : List (Str × Nat)} {ks : List NestedKey} : ∀ (ts : List Tm) {d e : Nat}, d ≤ e → TmsIn qs ks d ts → TmsIn qs ks e ts
  | [], d, e, _, _ => by unfold TmsIn; trivial
  | t :: ts, d, e, l, h => by
    unfold TmsIn at h ⊢
    exact ⟨tmIn_mono t l h.1, tmsIn_mono ts l h.2⟩
end
mutual
theorem tmIn_deep {qs : List (Str × Nat)} {ks : List NestedKey} : ∀ (t : Tm) {d : Nat}, TmIn qs ks d t → t.deep ≤ d
  | .var k, d, _ => by
    unfold Tm.deep
    omega
  | .of x ts, d, h => by
    cases d with
    | zero =>
      unfold TmIn at h
      exact h.elim
    | succ d =>
      unfold TmIn at h
      have := tmsIn_deep ts h.2
      unfold Tm.deep
      omega
theorem tmsIn_deep {qs : List (Str × Nat)} {ks : List NestedKey} : ∀ (ts : List Tm) {d : Nat}, TmsIn qs ks d ts → Tm.deeps ts ≤ d
  | [], d, _ => by
    unfold Tm.deeps
    omega
  | t :: ts, d, h => by
    unfold TmsIn at h
    have h1 := tmIn_deep t h.1
    have h2 := tmsIn_deep ts h.2
    unfold Tm.deeps
    omega
end
theorem tPut_mem {tb : Tb} {k : NestedKey} {t : Tm} {r : NestedKey × Tm} (h : r ∈ tPut tb k t) : (∃ q ∈ tb, q.1 = r.1 ∧ (r.2 = q.2 ∨ r.2 = t)) ∨ (r.1 = k ∧ r.2 = t) := by
  unfold tPut at h
  split at h
  · obtain ⟨q, hq, rfl⟩ := List.mem_map.mp h
    refine .inl ⟨q, hq, ?_⟩
    split
    · exact ⟨rfl, .inr rfl⟩
    · exact ⟨rfl, .inl rfl⟩
  · rcases List.mem_append.mp h with z | z
    · exact .inl ⟨r, z, rfl, .inl rfl⟩
    · rw [List.mem_singleton.mp z]
      exact .inr ⟨rfl, rfl⟩
end L2.Vf
/-! Functions that are made on the way and handed on: they stand in the base of the def that is called with them. -/
namespace L2.Vf
open PySem PySem.Spec PyProof.Rows
/-- the heap here, without what is tracked and without the frames -/
def baseOf (h : Heap) (H : Hp) (fs : List Addr) : Heap := hidT h (fun b => if b ∈ fs then some (.tbl #[]) else H b)
theorem of_baseOf {h : Heap} {H : Hp} {fs : List Addr} {b : Addr} {o : Obj} (e : (baseOf h H fs).get? b = some o) : h.get? b = some o ∧ H b = none ∧ b ∉ fs := by
  obtain ⟨h1, h2⟩ := of_hidT e
  by_cases z : b ∈ fs
  · rw [if_pos z] at h2
    cases h2
  · rw [if_neg z] at h2
    exact ⟨h1, h2, z⟩
theorem baseOf_get {h : Heap} {H : Hp} {fs : List Addr} {b : Addr} {o : Obj} (e : h.get? b = some o) (n : H b = none) (f : b ∉ fs) : (baseOf h H fs).get? b = some o :=
  hidT_get e (by rw [if_neg f]; exact n)
section
variable {X : Cx} {pins : List (Addr × Obj)} {σ : St} {H : Hp} {s : Shared}
theorem fun_frames {h base base' : Heap} : ∀ {l : List Env}, h.FunFrames base l → (∀ b ∈ frs l, base'.get? b = none) → h.FunFrames base' l
  | [], _, _ => True.intro
  | env :: rest, hl, n => by
    obtain ⟨hk, ⟨L, o, hf, hn, ho, hd⟩, hr⟩ := hl
    have mem : L ∈ frs (env :: rest) := by
      show L ∈ (env :: rest).filterMap (·.frame)
      rw [List.filterMap_cons, hf]
      exact List.mem_cons_self
    refine ⟨hk, ⟨L, o, hf, n L mem, ho, hd⟩, fun_frames hr fun b hb => n b ?_⟩
    show b ∈ (env :: rest).filterMap (·.frame)
    rw [List.filterMap_cons, hf]
    exact List.mem_cons_of_mem _ hb
/-- what a def that is called here finds, its base this very heap -/
theorem env0_here (I : Inv X pins σ H s) : Env0 X.prog X.w X.K X.mg (baseOf s.heap H (frs X.stack)) X.A X.stack s H := by
  have e0 := I.env0
  have up : ∀ b o, X.base.get? b = some o → (baseOf s.heap H (frs X.stack)).get? b = some o := fun b o e => by
    obtain ⟨h1, h2⟩ := e0.bs b o e
    refine baseOf_get h1 h2 fun z => ?_
    obtain ⟨h3, _⟩ := e0.funs.mem z
    rw [h3] at e
    cases e
  refine ⟨e0.frames, ?_, fun b o e => ⟨(of_baseOf e).1, (of_baseOf e).2.1⟩, Nat.le_of_eq (hidT_size _ _), fun_frames e0.funs fun b hb => ?_, e0.frf, e0.hok, e0.bare⟩
  · obtain ⟨kin, glob, ⟨mb, hb, hbb⟩, mc, h1, h2⟩ := e0.mod
    exact ⟨kin.keeps up, glob.keeps up, ⟨mb, hb.keeps up, hbb⟩, mc, h1.keeps up, h2⟩
  · cases q : (baseOf s.heap H (frs X.stack)).get? b with
    | none => rfl
    | some o => exact absurd hb (of_baseOf q).2.2
end
section
variable {CX : CXT} {P : Program} {w : World} {K : PySem.W.Frag} {mg : Str → Option Value} {base : Heap} {k : Nat} {f c' : Addr}
open NdefX LamX
/-- the words of a lambda -/
abbrev lamF (qual : Str) (params : Arguments) (scope : Scope) (cl : List (Str × Addr)) (c' : Addr) : NF := ⟨"<lambda>", qual, params, [], scope, cl, c'⟩
/-- what the captured cells hold, in the base -/
structure CellsB (base : Heap) (cl : List (Str × Addr)) (fr : List Str) (ws : List (Option V)) : Prop where
  len : ws.length = fr.length
  all : ∀ y c, cl.lookup y = some c → ∃ v, base.IsCell c v
  inj : ∀ x y c, cl.lookup x = some c → cl.lookup y = some c → x = y
  has : ∀ (i : Nat) (y : Str), fr[i]? = some y → ∃ c, cl.lookup y = some c ∧ ∀ v, ws[i]? = some (some v) → ∃ u, RelV v u ∧ base.IsCell c (some u)
/-- THE RULE: a lambda whose object stands in the base -/
theorem fn_lam {qual : Str} {params : Arguments} {body : Expr} {scope : Scope} {cl : List (Str × Addr)} {pm ctv : Value} {N ps fr : List Str} {ws : List (Option V)} {sp : Sp}
    (ob : base.get? f = some (PySem.W.kla_obj "<lambda>" qual params body scope cl pm c' ctv)) (S : NScope N ps fr scope) (C : CellsB base cl fr ws)
    (len : ∀ vs H Q E, sp vs H Q E → vs.length = ps.length) (code : ∀ vs H Q E, sp vs H Q E → H c' = some (CodeO c' qual))
    (hbody : ∀ (A : Around) (outer : List Env) (s : Shared) (H : Hp) (vs : List V) (Q : VK) (E : XK), Room k (A.deeper (envF (lamF qual params scope cl c') f s.heap.objs.size)) → sp vs H Q E →
      ∃ t, PE (ncx CX P w K mg base N (lamF qual params scope cl c') f A outer s H E) body t ∧ t (startF N vs ws) H Q) :
    FnOk P w K mg base CX (k + 1) f (PySem.W.kla_fn "<lambda>" qual params body scope cl pm (.ref c') ctv) ps sp := by
  refine ⟨len, fun A outer s H args us vs Q E hr e0 hb r hsp => ?_⟩
  have hl := len _ _ _ _ hsp
  have lim : s.heap.NoLimit := e0.mod.nolimit.keeps fun b o e => (e0.bs b o e).1
  have cellK : ∀ {c : Addr} {v : Option Value}, base.IsCell c v → H c = none ∧ s.heap.IsCell c v := fun {c v} ⟨o, ho, hd⟩ => ⟨(e0.bs _ _ ho).2, o, (e0.bs _ _ ho).1, hd⟩
  have C0 : CellsAt (lamF qual params scope cl c').cl fr ws s.heap H := ⟨C.len, fun y c e => by
      obtain ⟨v, hv⟩ := C.all y c e
      exact ⟨(cellK hv).1, v, (cellK hv).2⟩, C.inj, fun i y e => by
      obtain ⟨c, h1, h2⟩ := C.has i y e
      refine ⟨c, h1, fun v hv => ?_⟩
      obtain ⟨u, h3, h4⟩ := h2 v hv
      exact ⟨u, h3, (cellK h4).2⟩⟩
  refine PySem.W.kla_callFunE hr.depth (e0.bs _ _ ob).1 rfl S.co S.gen rfl (codeO_at e0.hok (code _ _ _ _ hsp)) (hb _ _ _ _ ?_)
  refine wpAny_newFunctionEnv S.nocell (fun ⟨n, _⟩ hy => S.par n (List.of_mem_zip hy).1) (fun h₁ hns hsb => ⟨lim.fresh _ hsb, ?_⟩) S.kind
  show codeAny _ _ (.expr body (envF (lamF qual params scope cl c') f s.heap.objs.size)) _ _
  have kp : ∀ b o, s.heap.get? b = some o → h₁.get? b = some o := fun b o e => hsb.extBut b o (Nat.ne_of_lt (Heap.lt_size e)) (Heap.get?_push_of_some _ e)
  obtain ⟨t, ht, hq⟩ := hbody A outer s H vs Q E (hr.deeper _) hsp
  have I : Inv (ncx CX P w K mg base N (lamF qual params scope cl c') f A outer s H E) [] (startF N vs ws) H { s with heap := h₁, toks := s.toks + (ps.zip us).length } := inv_startN S hr.hd e0 hl r C0 hns kp
  refine PySem.W.kla_codeExpr (wpAny_mono (ht.run [] _ (startF N vs ws) H Q I hq) (fun v s' hs => ?_) fun e s' hs => hs)
  obtain ⟨v', H', J, rv, q⟩ := hs
  exact ⟨v', H', J.os, J.bare, J.base, J.hok, rv, q⟩
/-! ### a name that holds a def, called -/
/-- a(e, ..), a the local name in slot i -/
def tCallL (P : Program) (w : World) (K : PySem.W.Frag) (mg : Str → Option Value) (base : Heap) (CX : CXT) (k i : Nat) (E : XK) (ta : TA) : TE := fun σ H Q => ∃ (f : Addr) (fd : FuncData) (ps : List Str) (sp : Sp), σ[i]? = some (some (.ref f)) ∧
  PySem.W.FnAt f base ∧ FnOk P w K mg base CX k f fd ps sp ∧ Binds K fd ps [] ∧ ta σ H fun vs H1 => sp vs H1 Q E
theorem pe_callL {X : Cx} {CX : CXT} {k i : Nat} {E : XK} {a : Str} {e : Expr} {es : List Expr} {ta : TA} {p pos : Pos} (hr : Room k X.A) (hN : X.N[i]? = some a) (hv : Vis X.env.scope a) (hx : Passes CX X E) (ha : PA X (e :: es) ta)
    (hd : (a == ("__debug__" : Str)) = false := by decide) (hcd : (a == ("__classdict__" : Str)) = false := by decide)
    (he : starEach (e :: es) X.env = (false, eval e X.env) :: starEach es X.env := by rfl) (hpl : (backTo pos (starEach es X.env)).any (·.1) = false := by rfl) :
    PE X (.Call (.Name a p) (e :: es) [] pos) (tCallL X.prog X.w X.K X.mg X.base CX k i E ta) := by
  refine ⟨fun pins s σ H Q I h => ?_⟩
  obtain ⟨f, fd, ps, sp, hs, hat, F, hb, h⟩ := h
  refine wpAny_Call_Name_kw (thn ((pe_var (pos := p) (i := i) hN hv hd hcd).run pins s σ H (fun v H1 => v = .ref f ∧ H1 = H) I ⟨.ref f, hs, rfl, rfl⟩) fun u s1 ⟨v, H1, I1, r1, q1⟩ => ?_)
  obtain ⟨ev, eH⟩ := q1
  subst ev
  rw [eH] at I1
  obtain rfl : u = Value.ref f := r1
  have up : ∀ {s' : Shared} {H' : Hp}, Inv X pins σ H' s' → PySem.W.FnAt f s'.heap := fun J => by
    obtain ⟨a1, a2, a3, a4, h0⟩ := hat
    exact ⟨a1, a2, a3, a4, J.bk _ _ h0⟩
  refine PySem.W.callWith_F (up I1) (thn (ha.run pos pins s1 σ H _ I1 h) fun us s2 ⟨vs, H2, I2, r, q⟩ => ⟨up I2, ?_⟩) he hpl
  exact run_fn F hr hb .nil hx I2 r (by rw [List.append_nil]; exact q)
end
end L2.Vf
/-! The call of a def with two functions that are made for it. -/
namespace L2.Vf
open PySem PySem.Spec PyProof.Rows
open NdefX LamX
section
variable {X : Cx} {pins : List (Addr × Obj)} {σ : St} {H : Hp} {s : Shared}
/-- a cell of the running def's own lies in no frame -/
theorem cell_frames (I : Inv X pins σ H s) {y : Str} {c : Addr} (hf : X.fn y = true) (hc : X.env.cells.lookup y = some c) : c ∉ frs X.stack := fun z => by
  rcases List.mem_cons.mp (I.stkSub _ z) with e | e
  · obtain ⟨m, ⟨o, es, ep, ho, hd, _⟩, _⟩ := I.loc
    obtain ⟨v, o2, ho2, hd2⟩ := I.cell y c hc
    rw [e, ho] at ho2
    cases ho2
    rw [hd] at hd2
    cases hd2
  · obtain ⟨_, o, ho, _⟩ := I.ok.funs.mem e
    exact Nat.lt_irrefl _ (Nat.lt_of_lt_of_le (Heap.lt_size ho) (I.ok.cab y c hf hc))
/-- what a made function captured, in the base -/
theorem cellsB_of {scope : Scope} {fr : List Str} {js : List Nat} (I : Inv X pins σ H s) (hfree : ∀ y ∈ scope.names, y.2 = .free → X.env.scope.names.lookup y.1 = some .cell ∨ X.env.scope.names.lookup y.1 = some .free)
    (hown : ∀ y ∈ scope.names, y.2 = .free → X.fn y.1 = true) (hfr : ∀ y ∈ fr, (y, NameKind.free) ∈ scope.names) (hjs : js.map (fun j => X.N[j]?) = fr.map some) :
    CellsB (baseOf s.heap H (frs X.stack)) (cloFrom X.env.cells scope.names []) fr (js.map (NdefX.slotAt σ)) := by
  have cp := Caps.made I.ok hfree hfr hjs
  obtain ⟨h1, h2, h3, h4⟩ := cells_of I cp
  have up : ∀ {y c v}, (cloFrom X.env.cells scope.names []).lookup y = some c → H c = none → s.heap.IsCell c v → (baseOf s.heap H (frs X.stack)).IsCell c v := fun {y c v} e n ⟨o, ho, hd⟩ => by
    refine ⟨o, baseOf_get ho n (cell_frames I (hown (y, .free) ?_ rfl) (cp.sub y c e)), hd⟩
    rcases cloFrom_mem (PySem.mem_of_lookup e) with hm | ⟨q, _⟩
    · cases hm
    · exact q
  refine ⟨h1, fun y c e => ?_, h3, fun i y e => ?_⟩
  · obtain ⟨n, v, hv⟩ := h2 y c e
    exact ⟨v, up e n hv⟩
  · obtain ⟨c, e1, e2⟩ := h4 i y e
    refine ⟨c, e1, fun v hv => ?_⟩
    obtain ⟨u, r, k⟩ := e2 v hv
    exact ⟨u, r, up e1 (h2 y c e1).1 k⟩
end
/-- the words of a lambda in the text -/
structure Lm where
  params : Arguments
  body : Expr
  scope : Scope
  pos : Pos
abbrev Lm.expr (l : Lm) : Expr := .Lambda l.params l.body l.scope l.pos
/-- the object at f is this lambda, made here -/
abbrev Lm.At (l : Lm) (X : Cx) (b : Heap) (f c' : Addr) (pm ctv : Value) : Prop := b.get? f = some (PySem.W.kla_obj "<lambda>" (X.env.qual ++ "<lambda>") l.params l.body l.scope (cloFrom X.env.cells l.scope.names []) pm c' ctv)
/-- its names are plain and captured from the running def's own -/
structure Lm.Ok (l : Lm) (X : Cx) (fr : List Str) (js : List Nat) : Prop where
  defs : defaultsOf l.params X.env = ([], [])
  free : ∀ y ∈ l.scope.names, y.2 = .free → X.env.scope.names.lookup y.1 = some .cell ∨ X.env.scope.names.lookup y.1 = some .free
  own : ∀ y ∈ l.scope.names, y.2 = .free → X.fn y.1 = true
  cap : ∀ y ∈ fr, (y, NameKind.free) ∈ l.scope.names
  at_ : js.map (fun j => X.N[j]?) = fr.map some
/-- what is known of a lambda that was made here, in the base of the def that is called with it -/
structure Lm.Made (l : Lm) (X : Cx) (b : Heap) (H : Hp) (f : Addr) (fr : List Str) (ws : List (Option V)) : Prop where
  ex : ∃ (c' : Addr) (pm ctv : Value), l.At X b f c' pm ctv ∧ H c' = some (CodeO c' (X.env.qual ++ "<lambda>"))
  cells : CellsB b (cloFrom X.env.cells l.scope.names []) fr ws
def tFold2 (X : Cx) (T : List (Addr × Str)) (spG : Heap → Sp) (l1 l2 : Lm) (fr1 fr2 : List Str) (js1 js2 : List Nat) (E : XK) (te : TE) : TE := fun σ H Q => te σ H fun v H0 => Tabs T H0 ∧ ∀ (b : Heap) (f1 f2 : Addr) (H2 : Hp), ExtN H0 H2 → Tabs T H2 → X.K.In b → b.Ns mainGlobals X.mg →
  l1.Made X b H2 f1 fr1 (js1.map (NdefX.slotAt σ)) → l2.Made X b H2 f2 fr2 (js2.map (NdefX.slotAt σ)) → spG b [v, .ref f1, .ref f2] H2 Q E
section
variable {X : Cx} {CX : CXT} {k : Nat} {g : Addr} {fd : FuncData} {ps : List Str} {spG : Heap → Sp} {E : XK} {x : Str} {p pos : Pos} {e : Expr} {te : TE} {T : List (Addr × Str)} {c P : Addr} {l1 l2 : Lm} {fr1 fr2 : List Str} {js1 js2 : List Nat}
theorem pe_fold2 (G : ∀ base : Heap, X.K.In base → base.Ns mainGlobals X.mg → FnOk X.prog X.w X.K X.mg base CX k g fd ps (spG base)) (hr : Room k X.A) (hg : Gl X x) (hm : X.mg x = some (.ref g)) (hk : PySem.W.keepIn X.K (.ref g) = true) (hb : Binds X.K fd ps []) (hx : Passes CX X E) (he : PE X e te)
    (TB : TabB X.base X.mg c P) (hcode : X.env.code = .ref c) (hmT : (P, X.env.qual ++ "<lambda>") ∈ T) (hu : ∀ p ∈ T, p.1 = P → p.2 = X.env.qual ++ "<lambda>") (O1 : l1.Ok X fr1 js1) (O2 : l2.Ok X fr2 js2)
    (hdb : (x == ("__debug__" : Str)) = false := by decide)
    (hst : starEach [e, l1.expr, l2.expr] X.env = [(false, eval e X.env), (false, eval l1.expr X.env), (false, eval l2.expr X.env)] := by rfl)
    (hpl : (backTo pos (starEach [l1.expr, l2.expr] X.env)).any (·.1) = false := by rfl) :
    PE X (.Call (.Name x p) [e, l1.expr, l2.expr] [] pos) (tFold2 X T spG l1 l2 fr1 fr2 js1 js2 E te) := by
  refine ⟨fun pins s σ H Q I h => ?_⟩
  refine wpAny_Call_Name_kw (ld_glob I hg hm ?_ hdb)
  refine PySem.W.callWith_K (h₀ := X.base) I.ok.mod.kin hk ?_ hst hpl
  rw [hst]
  show wpAny _ _ (spliced ((false, eval e X.env) :: (false, eval l1.expr X.env) :: (false, eval l2.expr X.env) :: [])) _ _ s
  refine Calls.spliced_cons (thn (he.run pins s σ H _ I h) fun u s1 ⟨v, H1, I1, r1, hT, q⟩ => ?_)
  have hf : ∀ {l : Lm} {fr : List Str} {js : List Nat}, l.Ok X fr js → ∀ y ∈ l.scope.names, y.2 = .free → ∃ c, X.env.cells.lookup y.1 = some c := fun O y hy e => (O.free y hy e).elim (fun z => I.ok.has _ (.inl z)) fun z => I.ok.has _ (.inr z)
  refine Calls.spliced_cons (lam_make2 I1 TB hcode hmT hu hT O1.defs (hf O1) fun f1 c1 pm1 ct1 H2 s2 I2 eN2 T2 hf1 hfn1 hfr1 hco1 => ?_)
  have dL : f1 ≠ X.env.locals := fun z => by
    obtain ⟨m, ⟨o, es, ep, ho, hd, _⟩, _⟩ := I2.loc
    rw [← z, hf1] at ho
    cases ho
    cases hd
  have nF : f1 ∉ X.fs := fun z => by
    rcases I2.ok.stk with w | ⟨w, _⟩
    · exact hfr1 (by rw [w]; exact z)
    · exact hfr1 (by
        rw [w]
        show f1 ∈ (X.env :: X.outer).filterMap (·.frame)
        obtain ⟨a, ha, hb⟩ := List.mem_filterMap.mp (show f1 ∈ X.outer.filterMap (·.frame) from z)
        exact List.mem_filterMap.mpr ⟨a, List.mem_cons_of_mem _ ha, hb⟩)
  have J2 : Inv X ((f1, PySem.W.kla_obj "<lambda>" (X.env.qual ++ "<lambda>") l1.params l1.body l1.scope (cloFrom X.env.cells l1.scope.names []) pm1 c1 ct1) :: pins) σ H2 s2 := I2.pins_of fun p hp => by
    rcases List.mem_cons.mp hp with e | e
    · subst e
      exact ⟨hf1, hfn1, dL, nF, fun v z => by cases z⟩
    · exact I2.pin p (List.mem_append_right _ e)
  refine Calls.spliced_cons (lam_make2 J2 TB hcode hmT hu T2 O2.defs (hf O2) fun f2 c2 pm2 ct2 H3 s3 J3 eN3 T3 hf2 hfn2 hfr2 hco2 => ?_)
  obtain ⟨hf1', hfn1', _, _, _⟩ := J3.pin _ (List.mem_append_right _ List.mem_cons_self)
  have I3 : Inv X pins σ H3 s3 := J3.pins_of fun p hp => J3.pin p (List.mem_append_right _ (List.mem_cons_of_mem _ hp))
  refine Calls.spliced_nil ⟨I3.kIn, ?_⟩
  have e3 := env0_here I3
  have M1 : l1.Made X (baseOf s3.heap H3 (frs X.stack)) H3 f1 fr1 (js1.map (NdefX.slotAt σ)) := ⟨⟨c1, pm1, ct1, baseOf_get hf1' hfn1' hfr1, eN3 _ _ hco1 codeO_ne⟩, cellsB_of I3 O1.free O1.own O1.cap O1.at_⟩
  have M2 : l2.Made X (baseOf s3.heap H3 (frs X.stack)) H3 f2 fr2 (js2.map (NdefX.slotAt σ)) := ⟨⟨c2, pm2, ct2, baseOf_get hf2 hfn2 hfr2, hco2⟩, cellsB_of I3 O2.free O2.own O2.cap O2.at_⟩
  have q' := q _ f1 f2 H3 (eN2.trans eN3) T3 e3.mod.kin e3.mod.glob M1 M2
  have F := G _ e3.mod.kin e3.mod.glob
  have b := hb s3 [u, .ref f1, .ref f2] I3.kIn (by rw [List.append_nil]; exact F.len _ _ _ _ q')
  rw [List.append_nil] at b
  show wpAny _ _ (call (.ref g) [u, .ref f1, .ref f2]) _ _ _
  refine wpAny_call (codeAny_mono (F.run X.A X.stack s3 H3 ⟨[u, .ref f1, .ref f2], []⟩ [u, .ref f1, .ref f2] [v, .ref f1, .ref f2] Q E hr e3 b (.cons r1 (.cons rfl (.cons rfl .nil))) q') fun r s' hq => ?_)
  cases r with
  | error e => exact hx pins σ H3 s3 e s' I3 hq
  | ok fl =>
    cases fl with
    | ret u => exact I3.after hq
    | next => exact False.elim hq
    | brk => exact False.elim hq
    | cont => exact False.elim hq
end
end L2.Vf
/-! What stays where functions are made: as hide and But, the tables of code objects left out. -/
namespace L2.Vf.N
open PySem PySem.Spec PyProof.Rows
open Evl (Ex Ev EvT EvL EvA)
/-- the heap without what is written; tables of code objects are nobody's -/
def hide (S : List Addr) (H : Hp) : Hp := fun b => if b ∈ S then none else match H b with
  | some (.tbl _) => none
  | o => o
/-- all but S stays -/
def But (S : List Addr) (H H' : Hp) : Prop := Ex (hide S H) (hide S H')
section
variable {K : PySem.W.Frag} {w : World} {σ : St} {H H' H1 H2 : Hp} {S T : List Addr} {q : Addr} {ta : TA} {te : TE} {d : PyData} {ds : List PyData} {v : V}
theorem hide_off {o : HO} (n : q ∉ S) (e : H q = some o) (nt : ∀ ps, o ≠ .tbl ps := by intro _ z; cases z) : hide S H q = some o := by
  unfold hide
  rw [if_neg n, e]
  cases o <;> first | rfl | exact absurd rfl (nt _)
theorem hide_inv {o : HO} (h : hide S H q = some o) : q ∉ S ∧ H q = some o ∧ ∀ ps, o ≠ .tbl ps := by
  unfold hide at h
  by_cases z : q ∈ S
  · rw [if_pos z] at h
    cases h
  · rw [if_neg z] at h
    cases e : H q with
    | none =>
      rw [e] at h
      cases h
    | some u =>
      rw [e] at h
      cases u <;> cases h <;> exact ⟨z, rfl, fun ps y => by cases y⟩
theorem hide_ex0 {o : HO} (h : L2.Vf.hide S H q = some o) : H q = some o := L2.Vf.hide_ex _ _ h
theorem hide_ex : Ex (hide S H) H := fun b o h => (hide_inv h).2.1
theorem But.refl : But S H H := Ex.refl _
theorem But.trans (a : But S H H1) (b : But S H1 H2) : But S H H2 := Ex.trans a b
theorem But.of (e : Ex H H') : But S H H' := fun b o h => by
  obtain ⟨h1, h2, h3⟩ := hide_inv h
  exact hide_off h1 (e b o h2) h3
theorem But.get (e : But S H H') {b : Addr} {o : HO} (n : b ∉ S) (h : H b = some o) (nt : ∀ ps, o ≠ .tbl ps := by intro _ z; cases z) : H' b = some o :=
  (hide_inv (e b o (hide_off n h nt))).2.1
theorem But.byN (h : ∀ b o, b ∉ S → (∀ ps, o ≠ .tbl ps) → H b = some o → H' b = some o) : But S H H' := fun b o hb => by
  obtain ⟨h1, h2, h3⟩ := hide_inv hb
  exact hide_off h1 (h b o h1 h3 h2) h3
theorem But.by (h : ∀ b o, b ∉ S → H b = some o → H' b = some o) : But S H H' := But.byN fun b o n _ e => h b o n e
theorem But.more (h : ∀ b ∈ S, b ∈ T) (e : But S H H') : But T H H' := But.byN fun b o n nt hb => e.get (fun z => n (h b z)) hb nt
theorem But.mut {o : HO} (e : But S H H') (n : H q = none) : But S H (upd H' q o) := But.byN fun b o' hb nt h => by
  rw [upd_ne (ne_of_none h n)]
  exact e.get hb h nt
theorem hide_new {o : HO} (k : Kn S H) (n : H q = none) (nt : ∀ ps, o ≠ .tbl ps := by intro _ z; cases z) : hide S (upd H q o) q = some o := hide_off (k.off n) upd_same nt
/-! ### from the one to the other -/
theorem But.extN (e : LamX.ExtN H H') : But S H H' := But.byN fun b o _ nt h => e b o h nt
theorem But.from (e : L2.Vf.But S H H') : But S H H' := But.byN fun b o n _ h => L2.Vf.But.get e n h
theorem sqt_to {a : Addr} {xs : List V} (h : SqT K (L2.Vf.hide S H) a xs) : SqT K (hide S H) a xs := by
  rcases h with (h | ⟨o, h⟩) | h
  · refine .inl (.inl (hide_off (fun z => ?_) (hide_ex0 h)))
    rw [L2.Vf.hide, if_pos z] at h
    cases h
  · refine .inl (.inr ⟨o, hide_off (fun z => ?_) (hide_ex0 h)⟩)
    rw [L2.Vf.hide, if_pos z] at h
    cases h
  · exact .inr h
theorem sqt_from {a : Addr} {xs : List V} (h : SqT K (hide S H) a xs) : SqT K (L2.Vf.hide S H) a xs := by
  rcases h with (h | ⟨o, h⟩) | h
  · obtain ⟨h1, h2, _⟩ := hide_inv h
    exact .inl (.inl (by rw [L2.Vf.hide_off h1]; exact h2))
  · obtain ⟨h1, h2, _⟩ := hide_inv h
    exact .inl (.inr ⟨o, by rw [L2.Vf.hide_off h1]; exact h2⟩)
  · exact .inr h
theorem tm_to {t : Tm} (h : TmV K (L2.Vf.hide S H) t v) : TmV K (hide S H) t v := TmV.to sqt_to t v h
theorem tm_from {t : Tm} (h : TmV K (hide S H) t v) : TmV K (L2.Vf.hide S H) t v := TmV.to sqt_from t v h
/-- where all but S stays, the tables outside S do -/
theorem tabs_but {Ts : List (Addr × Str)} (e : L2.Vf.But S H H') (h : LamX.Tabs Ts H) (n : ∀ p ∈ Ts, p.1 ∉ S) (nc : ∀ c x, H c = some (LamX.CodeO c x) → c ∉ S) : LamX.Tabs Ts H' := fun p hp => by
  obtain ⟨ps, h1, h2, h3⟩ := h p hp
  refine ⟨ps, L2.Vf.But.get e (n p hp) h1, h2, fun pos cv hc => ?_⟩
  obtain ⟨c, e1, e2⟩ := h3 pos cv hc
  exact ⟨c, e1, L2.Vf.But.get e (nc c _ e2) e2⟩
end
end L2.Vf.N
/-! How long a repr can be. -/
namespace L2.Vf
open PySem
/-- plain signs alone -/
def asc (x : Str) : Bool := x.cps.toList.all fun c => decide (c < 128)
/-- a word of plain signs, not too long -/
def strSm (x : Str) : Bool := decide (x.length ≤ 14) && asc x
mutual
/-- all leaves are small -/
def smD : PyData → Bool
  | .none | .bool _ => true
  | .int i => decide ((toString i : Str).length ≤ 150) && decide (i.natAbs.log2 < 1920) && asc (toString i : Str)
  | .str x => strSm x
  | .list xs | .tuple xs => smAll xs
  | .dict kvs => smKv kvs
def smAll : List PyData → Bool
  | [] => true
  | x :: xs => smD x && smAll xs
def smKv : List (PyData × PyData) → Bool
  | [] => true
  | (k, v) :: r => smD k && smD v && smKv r
end
mutual
/-- how many parts data has -/
def cnt : PyData → Nat
  | .none | .bool _ | .int _ | .str _ => 1
  | .list xs | .tuple xs => cntAll xs + 1
  | .dict kvs => cntKv kvs + 1
def cntAll : List PyData → Nat
  | [] => 0
  | x :: xs => cnt x + cntAll xs
def cntKv : List (PyData × PyData) → Nat
  | [] => 0
  | (k, v) :: r => cnt k + cnt v + cntKv r
end
theorem piled_text : ∀ (ts : List Str) (k : Nat) (acc : Str), (textFrom k acc ts).length ≤ acc.length + piled ts
  | [], k, acc => by
    show acc.length ≤ _
    omega
  | t :: r, k, acc => by
    have h := piled_text r (k + 1) (acc ++ (if k > 0 then ", " else "" : String) ++ t)
    have e : (acc ++ (if k > 0 then ", " else "" : String) ++ t).length = acc.length + (if k > 0 then 2 else 0) + t.length := by
      rw [strLen_append, strLen_append]
      split <;> rfl
    rw [e] at h
    rw [piled_cons]
    show (textFrom (k + 1) (acc ++ (if k > 0 then ", " else "" : String) ++ t) r).length ≤ _
    refine Nat.le_trans h ?_
    split <;> omega
theorem listText_le (ts : List Str) : (listText ts).length ≤ piled ts + 2 := by
  unfold listText
  rw [strLen_append]
  have h := piled_text ts 0 "["
  have e1 : ((("[" : String) : Str)).length = 1 := rfl
  have e2 : ((("]" : String) : Str)).length = 1 := rfl
  omega
theorem tupleText_le (ts : List Str) : (tupleText ts).length ≤ piled ts + 3 := by
  unfold tupleText
  rw [strLen_append, strLen_append]
  have e1 : ((("(" : String) : Str)).length = 1 := rfl
  have e3 : (((if ts.length == 1 then ",)" else ")" : String) : Str)).length ≤ 2 := by split <;> decide
  rw [e1]
  by_cases h : ts = []
  · subst h
    have : (Str.join ", " []).length = 0 := rfl
    omega
  · have := join_length_add ts h
    omega
theorem dictText_le (ts : List Str) : (dictText ts).length ≤ piled ts + 2 := by
  have e : (dictText ts).length = 1 + (Str.join ", " ts).length + 1 := by
    unfold dictText
    rw [strLen_append, strLen_append]; rfl
  by_cases h : ts = []
  · subst h
    have : (Str.join ", " []).length = 0 := rfl
    omega
  · have := join_length_add ts h
    omega
theorem strSm_len {x : Str} (h : strSm x = true) : (reprText x).length ≤ 150 := by
  unfold strSm at h
  unfold asc at h
  rw [Bool.and_eq_true, decide_eq_true_eq, List.all_eq_true] at h
  have z := StrLaws.reprText_len x fun c hc => Nat.lt_of_lt_of_le (of_decide_eq_true (h.2 c hc)) (by decide)
  omega
mutual
theorem shown_le : ∀ d : PyData, smD d = true → d.shown.length + 5 ≤ 160 * cnt d
  | .none, _ => by simp only [PyData.shown, cnt]; decide
  | .bool b, _ => by cases b <;> simp only [PyData.shown, cnt] <;> decide
  | .int i, h => by
    simp only [smD, Bool.and_eq_true, decide_eq_true_eq] at h
    simp only [PyData.shown, cnt]
    omega
  | .str x, h => by
    simp only [smD] at h
    have := strSm_len h
    simp only [PyData.shown, cnt]
    omega
  | .list xs, h => by
    simp only [smD] at h
    have := shownAll_le xs h
    have := listText_le (PyData.shownAll xs)
    simp only [PyData.shown, cnt]
    omega
  | .tuple xs, h => by
    simp only [smD] at h
    have := shownAll_le xs h
    have := tupleText_le (PyData.shownAll xs)
    simp only [PyData.shown, cnt]
    omega
  | .dict kvs, h => by
    simp only [smD] at h
    have := shownKv_le kvs h
    have := dictText_le (PyData.shownKv kvs)
    simp only [PyData.shown, cnt]
    omega
theorem shownAll_le : ∀ xs : List PyData, smAll xs = true → piled (PyData.shownAll xs) ≤ 160 * cntAll xs
  | [], _ => by simp only [PyData.shownAll, cntAll, piled_nil]; omega
  | x :: xs, h => by
    simp only [smAll, Bool.and_eq_true] at h
    have h1 := shown_le x h.1
    have h2 := shownAll_le xs h.2
    simp only [PyData.shownAll, cntAll, piled_cons]
    omega
theorem shownKv_le : ∀ xs : List (PyData × PyData), smKv xs = true → piled (PyData.shownKv xs) ≤ 160 * cntKv xs
  | [], _ => by simp only [PyData.shownKv, cntKv, piled_nil]; omega
  | (k, v) :: r, h => by
    simp only [smKv, Bool.and_eq_true] at h
    have h1 := shown_le k h.1.1
    have h2 := shown_le v h.1.2
    have h3 := shownKv_le r h.2
    simp only [PyData.shownKv, cntKv, piled_cons]
    rw [strLen_append, strLen_append]
    have e : (((": " : String) : Str)).length = 2 := rfl
    omega
end
mutual
theorem sm_showable : ∀ d : PyData, smD d = true → d.showable = true
  | .none, _ => by simp only [PyData.showable]
  | .bool b, _ => by simp only [PyData.showable]
  | .int i, h => by
    simp only [smD, Bool.and_eq_true, decide_eq_true_eq] at h
    simp only [PyData.showable, decide_eq_true_eq]
    exact h.1.2
  | .str x, h => by simp only [PyData.showable]
  | .list xs, h => by
    simp only [smD] at h
    simp only [PyData.showable]
    exact smAll_showable xs h
  | .tuple xs, h => by
    simp only [smD] at h
    simp only [PyData.showable]
    exact smAll_showable xs h
  | .dict kvs, h => by
    simp only [smD] at h
    simp only [PyData.showable]
    exact smKv_showable kvs h
theorem smAll_showable : ∀ xs : List PyData, smAll xs = true → PyData.showableAll xs = true
  | [], _ => by simp only [PyData.showableAll]
  | x :: xs, h => by
    simp only [smAll, Bool.and_eq_true] at h
    simp only [PyData.showableAll, sm_showable x h.1, smAll_showable xs h.2, Bool.and_self]
theorem smKv_showable : ∀ xs : List (PyData × PyData), smKv xs = true → PyData.showableKv xs = true
  | [], _ => by simp only [PyData.showableKv]
  | (k, v) :: r, h => by
    simp only [smKv, Bool.and_eq_true] at h
    simp only [PyData.showableKv, sm_showable k h.1.1, sm_showable v h.1.2, smKv_showable r h.2, Bool.and_self]
end
/-! ### of plain signs -/
theorem asc_app (x y : Str) : asc (x ++ y) = (asc x && asc y) := by
  show (x.cps ++ y.cps).toList.all _ = _
  rw [Array.toList_append, List.all_append]
  rfl
theorem chars_asc : ∀ c : Nat, c < 128 → ((Builtin.Str.reprChar 39 c).all fun c => decide (c < 128)) = true ∧ ((Builtin.Str.reprChar 34 c).all fun c => decide (c < 128)) = true := by decide +kernel
theorem fold_asc (q : Nat) (hq : q = 34 ∨ q = 39) : ∀ (l : List Nat) (acc : Array Nat), (∀ c ∈ l, c < 128) → (acc.toList.all fun c => decide (c < 128)) = true →
    ((l.foldl (fun out c => out ++ (Builtin.Str.reprChar q c).toArray) acc).toList.all fun c => decide (c < 128)) = true
  | [], acc, _, h => h
  | c :: l, acc, hl, h => by
    rw [List.foldl_cons]
    refine fold_asc q hq l _ (fun d hd => hl d (List.mem_cons_of_mem _ hd)) ?_
    rw [Array.toList_append, List.all_append, h, Bool.true_and]
    obtain ⟨h1, h2⟩ := chars_asc c (hl c List.mem_cons_self)
    rcases hq with rfl | rfl
    · exact h2
    · exact h1
theorem repr_asc {x : Str} (h : asc x = true) : asc (reprText x) = true := by
  have hq : reprQuote x = 34 ∨ reprQuote x = 39 := by
    unfold reprQuote
    split
    · exact .inl rfl
    · exact .inr rfl
  have hx : ∀ c ∈ x.cps.toList, c < 128 := fun c hc => of_decide_eq_true (List.all_eq_true.mp h c hc)
  have z := fold_asc (reprQuote x) hq x.cps.toList #[reprQuote x] hx (by rcases hq with e | e <;> rw [e] <;> rfl)
  show ((x.cps.foldl (fun out c => out ++ (Builtin.Str.reprChar (reprQuote x) c).toArray) #[reprQuote x]).push (reprQuote x)).toList.all _ = true
  rw [Array.toList_push, List.all_append, ← Array.foldl_toList, z]
  rcases hq with e | e <;> rw [e] <;> rfl
theorem text_asc : ∀ (ts : List Str) (k : Nat) (acc : Str), asc acc = true → (∀ t ∈ ts, asc t = true) → asc (textFrom k acc ts) = true
  | [], _, _, h, _ => h
  | t :: r, k, acc, h, ht => by
    show asc (textFrom (k + 1) (acc ++ (if k > 0 then ", " else "" : String) ++ t) r) = true
    refine text_asc r _ _ ?_ fun u hu => ht u (List.mem_cons_of_mem _ hu)
    rw [asc_app, asc_app, h, ht t List.mem_cons_self]
    split <;> rfl
theorem join_asc : ∀ ts : List Str, (∀ t ∈ ts, asc t = true) → asc (Str.join ", " ts) = true
  | [], _ => rfl
  | [x], h => h x List.mem_cons_self
  | x :: y :: r, h => by
    have ih := join_asc (y :: r) fun u hu => h u (List.mem_cons_of_mem _ hu)
    show asc (x ++ ", " ++ Str.join ", " (y :: r)) = true
    rw [asc_app, asc_app, h x List.mem_cons_self, ih]
    rfl
mutual
theorem shown_asc : ∀ d : PyData, smD d = true → asc d.shown = true
  | .none, _ => by simp only [PyData.shown]; decide
  | .bool b, _ => by cases b <;> simp only [PyData.shown] <;> decide
  | .int i, h => by
    simp only [smD, Bool.and_eq_true] at h
    simp only [PyData.shown]
    exact h.2
  | .str x, h => by
    simp only [smD, strSm, Bool.and_eq_true] at h
    simp only [PyData.shown]
    exact repr_asc h.2
  | .list xs, h => by
    simp only [smD] at h
    have := shownAll_asc xs h
    simp only [PyData.shown]
    unfold listText
    rw [asc_app, text_asc _ _ _ rfl this]
    rfl
  | .tuple xs, h => by
    simp only [smD] at h
    have := shownAll_asc xs h
    simp only [PyData.shown]
    unfold tupleText
    rw [asc_app, asc_app, join_asc _ this]
    split <;> rfl
  | .dict kvs, h => by
    simp only [smD] at h
    have := shownKv_asc kvs h
    simp only [PyData.shown]
    unfold dictText
    rw [asc_app, asc_app, join_asc _ this]
    rfl
theorem shownAll_asc : ∀ xs : List PyData, smAll xs = true → ∀ t ∈ PyData.shownAll xs, asc t = true
  | [], _ => by simp only [PyData.shownAll]; intro t ht; cases ht
  | x :: xs, h => by
    simp only [smAll, Bool.and_eq_true] at h
    simp only [PyData.shownAll]
    intro t ht
    rcases List.mem_cons.mp ht with rfl | ht
    · exact shown_asc x h.1
    · exact shownAll_asc xs h.2 t ht
theorem shownKv_asc : ∀ xs : List (PyData × PyData), smKv xs = true → ∀ t ∈ PyData.shownKv xs, asc t = true
  | [], _ => by simp only [PyData.shownKv]; intro t ht; cases ht
  | (k, v) :: r, h => by
    simp only [smKv, Bool.and_eq_true] at h
    simp only [PyData.shownKv]
    intro t ht
    rcases List.mem_cons.mp ht with rfl | ht
    · rw [asc_app, asc_app, shown_asc k h.1.1, shown_asc v h.1.2]
      rfl
    · exact shownKv_asc r h.2 t ht
end
theorem asc_ok {x : Str} (h : asc x = true) : PyData.strOk x = true := by
  unfold PyData.strOk
  rw [← Array.all_toList, List.all_eq_true]
  exact fun c hc => decide_eq_true (Nat.lt_trans (of_decide_eq_true (List.all_eq_true.mp h c hc)) (by decide))
end L2.Vf
/-! Terms: what is put in, as data, how long they are shown. -/
namespace L2.Vf
open PySem PySem.Spec PyProof.Rows
/-! ### what is put in -/
theorem tLook_nil (k : NestedKey) : tLook [] k = none := rfl
mutual
theorem put_congr {a b : Tb} (h : ∀ k, tLook a k = tLook b k) : ∀ t : Tm, t.put a = t.put b
  | .var k => by
    unfold Tm.put
    rw [h k]
  | .of x ts => by
    unfold Tm.put
    rw [puts_congr h ts]
theorem puts_congr {a b : Tb} (h : ∀ k, tLook a k = tLook b k) : ∀ ts : List Tm, Tm.puts a ts = Tm.puts b ts
  | [] => rfl
  | t :: ts => by
    unfold Tm.puts
    rw [put_congr h t, puts_congr h ts]
end
mutual
theorem put_nil : ∀ t : Tm, t.put [] = t
  | .var k => by
    unfold Tm.put
    rw [tLook_nil]
    rfl
  | .of x ts => by
    unfold Tm.put
    rw [puts_nil ts]
theorem puts_nil : ∀ ts : List Tm, Tm.puts [] ts = ts
  | [] => rfl
  | t :: ts => by
    unfold Tm.puts
    rw [put_nil t, puts_nil ts]
end
/-- one table behind the other, in one -/
def Both (one other both : Tb) : Prop := ∀ k, tLook both k = match tLook one k with
  | some t => some (t.put other)
  | none => tLook other k
mutual
theorem put_both {one other both : Tb} (h : Both one other both) : ∀ t : Tm, (t.put one).put other = t.put both
  | .var k => by
    have z := h k
    show ((tLook one k).getD (.var k)).put other = (tLook both k).getD (.var k)
    rw [z]
    cases tLook one k with
    | none =>
      show (Tm.var k).put other = _
      unfold Tm.put
      rfl
    | some t => rfl
  | .of x ts => by
    have e := puts_both h ts
    show Tm.put other (Tm.of x (Tm.puts one ts)) = Tm.of x (Tm.puts both ts)
    rw [← e]
    unfold Tm.put
    rfl
theorem puts_both {one other both : Tb} (h : Both one other both) : ∀ ts : List Tm, Tm.puts other (Tm.puts one ts) = Tm.puts both ts
  | [] => rfl
  | t :: ts => by
    show (t.put one).put other :: Tm.puts other (Tm.puts one ts) = t.put both :: Tm.puts both ts
    rw [put_both h t, puts_both h ts]
end
theorem tLook_cons (p : NestedKey × Tm) (tb : Tb) (k : NestedKey) : tLook (p :: tb) k = if p.1 = k then some p.2 else tLook tb k := by
  unfold tLook
  rw [List.find?_cons]
  by_cases z : p.1 = k
  · rw [decide_eq_true z, if_pos z]
    rfl
  · rw [decide_eq_false z, if_neg z]
theorem tLook_map (f : Tm → Tm) : ∀ (tb : Tb) (k : NestedKey), tLook (tb.map fun p => (p.1, f p.2)) k = (tLook tb k).map f
  | [], k => rfl
  | p :: tb, k => by
    rw [List.map_cons, tLook_cons, tLook_cons, tLook_map f tb k]
    dsimp only
    split <;> rfl
theorem tLook_append : ∀ (a b : Tb) (k : NestedKey), tLook (a ++ b) k = (tLook a k).or (tLook b k)
  | [], b, k => by
    show tLook b k = (none : Option Tm).or _
    rfl
  | p :: a, b, k => by
    show tLook (p :: (a ++ b)) k = _
    rw [tLook_cons, tLook_cons, tLook_append a b k]
    split <;> rfl
theorem tLook_none {tb : Tb} {k : NestedKey} : tLook tb k = none ↔ k ∉ tb.map (·.1) := by
  induction tb with
  | nil => simp [tLook]
  | cons p tb ih =>
    rw [tLook_cons]
    by_cases z : p.1 = k
    · rw [if_pos z]
      simp [z]
    · rw [if_neg z, ih, List.map_cons, List.mem_cons]
      constructor
      · intro h q
        rcases q with q | q
        · exact z q.symm
        · exact h q
      · intro h q
        exact h (.inr q)
theorem tLook_rev {tb : Tb} (n : (tb.map (·.1)).Nodup) (k : NestedKey) : tLook tb.reverse k = tLook tb k := by
  induction tb with
  | nil => rfl
  | cons p tb ih =>
    rw [List.map_cons, List.nodup_cons] at n
    rw [List.reverse_cons, tLook_append, ih n.2, tLook_cons, tLook_cons, tLook_nil]
    by_cases z : p.1 = k
    · rw [if_pos z, if_pos z]
      have : tLook tb k = none := tLook_none.mpr (z ▸ n.1)
      rw [this]
      rfl
    · rw [if_neg z, if_neg z]
      cases tLook tb k <;> rfl
theorem tPut_look (tb : Tb) (k : NestedKey) (t : Tm) (j : NestedKey) : tLook (tPut tb k t) j = if j = k then some t else tLook tb j := by
  unfold tPut
  by_cases h : (tLook tb k).isSome = true
  · rw [if_pos h]
    have go : ∀ tb : Tb, tLook (tb.map fun p => if p.1 = k then (p.1, t) else p) j = if j = k then (if (tLook tb k).isSome = true then some t else none) else tLook tb j := by
      intro tb
      induction tb with
      | nil => simp [tLook]
      | cons p tb ih =>
        rw [List.map_cons, tLook_cons, ih, tLook_cons, tLook_cons]
        by_cases a : p.1 = k
        · rw [if_pos a]
          dsimp only
          rw [if_pos a]
          by_cases b : j = k
          · rw [if_pos b, if_pos (a.trans b.symm), if_pos b]
            rfl
          · rw [if_neg b, if_neg b, if_neg (fun z => b (z.symm.trans a)), if_neg (fun z => b (z.symm.trans a))]
        · rw [if_neg a, if_neg a]
          by_cases b : j = k
          · rw [if_pos b, if_pos b, if_neg (fun z => a (z.trans b))]
          · rw [if_neg b, if_neg b]
    rw [go tb, if_pos h]
  · rw [if_neg h, tLook_append, tLook_cons, tLook_nil]
    have e : tLook tb k = none := by
      cases z : tLook tb k with
      | none => rfl
      | some u => rw [z] at h; exact absurd rfl h
    by_cases b : j = k
    · rw [if_pos b, b, e, if_pos rfl]
      rfl
    · rw [if_neg b, if_neg (fun z => b z.symm)]
      cases tLook tb j <;> rfl
theorem tPut_keys (tb : Tb) (k : NestedKey) (t : Tm) : (tPut tb k t).map (·.1) = if k ∈ tb.map (·.1) then tb.map (·.1) else tb.map (·.1) ++ [k] := by
  unfold tPut
  have q : (tLook tb k).isSome = true ↔ k ∈ tb.map (·.1) := by
    cases z : tLook tb k with
    | none => simp only [Option.isSome_none, Bool.false_eq_true, false_iff]; exact tLook_none.mp z
    | some u =>
      simp only [Option.isSome_some, true_iff]
      exact Classical.byContradiction fun c => by
        rw [tLook_none.mpr c] at z
        cases z
  by_cases h : k ∈ tb.map (·.1)
  · rw [if_pos (q.mpr h), if_pos h, List.map_map]
    refine List.map_congr_left fun p _ => ?_
    show (if p.1 = k then (p.1, t) else p).1 = p.1
    split <;> rfl
  · rw [if_neg (fun z => h (q.mp z)), if_neg h, List.map_append]
    rfl
theorem tPut_nodup {tb : Tb} (k : NestedKey) (t : Tm) (n : (tb.map (·.1)).Nodup) : ((tPut tb k t).map (·.1)).Nodup := by
  rw [tPut_keys]
  split
  · exact n
  · rename_i h
    rw [List.nodup_append]
    refine ⟨n, by simp, fun a ha b hb => ?_⟩
    rw [List.mem_singleton.mp hb]
    exact fun z => h (z ▸ ha)
mutual
/-- a term with such put in, over the same -/
theorem put_in_of {qs : List (Str × Nat)} {ks : List NestedKey} {e : Nat} {tb : Tb} (h : ∀ r ∈ tb, TmIn qs ks e r.2) : ∀ (t : Tm) {d : Nat}, TmIn qs ks d t → TmIn qs ks (d + e) (t.put tb)
  | .var k, d, ht => by
    show TmIn qs ks (d + e) ((tLook tb k).getD (.var k))
    cases z : tLook tb k with
    | none =>
      show TmIn qs ks (d + e) (.var k)
      unfold TmIn at ht ⊢
      exact ht
    | some u =>
      have : ∃ r ∈ tb, r.2 = u := by
        unfold tLook at z
        obtain ⟨r, hr, rfl⟩ := Option.map_eq_some_iff.mp z
        exact ⟨r, List.mem_of_find?_eq_some hr, rfl⟩
      obtain ⟨r, hr, rfl⟩ := this
      exact tmIn_mono _ (by omega) (h r hr)
  | .of x ts, 0, ht => by
    unfold TmIn at ht
    exact ht.elim
  | .of x ts, d + 1, ht => by
    unfold TmIn at ht
    show TmIn qs ks (d + 1 + e) (.of x (Tm.puts tb ts))
    have e1 : d + 1 + e = (d + e) + 1 := by omega
    rw [e1]
    unfold TmIn
    refine ⟨?_, puts_in_of h ts ht.2⟩
    have l : (Tm.puts tb ts).length = ts.length := by rw [puts_map, List.length_map]
    rw [l]
    exact ht.1
theorem puts_in_of {qs : List (Str × Nat)} {ks : List NestedKey} {e : Nat} {tb : Tb} (h : ∀ r ∈ tb, TmIn qs ks e r.2) : ∀ (ts : List Tm) {d : Nat}, TmsIn qs ks d ts → TmsIn qs ks (d + e) (Tm.puts tb ts)
  | [], d, _ => by
    unfold Tm.puts TmsIn
    trivial
  | t :: ts, d, ht => by
    unfold TmsIn at ht
    show TmsIn qs ks (d + e) (t.put tb :: Tm.puts tb ts)
    unfold TmsIn
    exact ⟨put_in_of h t ht.1, puts_in_of h ts ht.2⟩
end
mutual
theorem eqv_tm : ∀ t : Tm, PyData.eqv t.data t.data = true
  | .var k => by
    simp only [Tm.data, PyData.eqv, PyData.eqvAll, eqv_key k, Bool.and_true, beq_self_eq_true]
  | .of x ts => by
    simp only [Tm.data, PyData.eqv, PyData.eqvAll, eqv_tms ts, Bool.and_true, beq_self_eq_true]
theorem eqv_tms : ∀ ts : List Tm, PyData.eqvAll (Tm.datas ts) (Tm.datas ts) = true
  | [] => by simp only [Tm.datas, PyData.eqvAll]
  | t :: ts => by
    simp only [Tm.datas, PyData.eqvAll, eqv_tm t, eqv_tms ts, Bool.and_true]
end
mutual
/-- its names and keys can be laid, its keys are flat -/
def TmLay : Tm → Prop
  | .var k => k.data.canLay0 = true ∧ k.data.depth ≤ 1
  | .of x ts => PyData.strOk x = true ∧ TmsLay ts
def TmsLay : List Tm → Prop
  | [] => True
  | t :: ts => TmLay t ∧ TmsLay ts
end
mutual
theorem tm_lay : ∀ t : Tm, TmLay t → t.data.canLay0 = true ∧ t.data.depth ≤ 2 * t.deep + 2
  | .var k, h => by
    unfold TmLay at h
    have s : PyData.strOk "var" = true := by decide +kernel
    simp only [Tm.data, Tm.deep, PyData.canLay0, PyData.canLayAll0, PyData.depth, PyData.depthAll, h.1, s, Bool.and_self, true_and]
    have := h.2
    omega
  | .of x ts, h => by
    unfold TmLay at h
    have z := tms_lay ts h.2
    have s : PyData.strOk "of" = true := by decide +kernel
    simp only [Tm.data, Tm.deep, PyData.canLay0, PyData.canLayAll0, PyData.depth, PyData.depthAll, h.1, z.1, s, Bool.and_self, true_and]
    have := z.2
    omega
theorem tms_lay : ∀ ts : List Tm, TmsLay ts → PyData.canLayAll0 (Tm.datas ts) = true ∧ PyData.depthAll (Tm.datas ts) ≤ 2 * Tm.deeps ts + 2
  | [], _ => by
    simp only [Tm.datas, Tm.deeps, PyData.canLayAll0, PyData.depthAll, true_and]
    omega
  | t :: ts, h => by
    unfold TmsLay at h
    have a := tm_lay t h.1
    have b := tms_lay ts h.2
    simp only [Tm.datas, Tm.deeps, PyData.canLayAll0, PyData.depthAll, a.1, b.1, Bool.and_self, true_and]
    have := a.2
    have := b.2
    omega
end
mutual
theorem lay_in {qs : List (Str × Nat)} {ks : List NestedKey} (hq : ∀ q ∈ qs, PyData.strOk q.1 = true) (hk : ∀ k ∈ ks, k.data.canLay0 = true ∧ k.data.depth ≤ 1) : ∀ (t : Tm) {d : Nat}, TmIn qs ks d t → TmLay t
  | .var k, d, h => by
    unfold TmIn at h
    unfold TmLay
    exact hk k h
  | .of x ts, 0, h => by
    unfold TmIn at h
    exact h.elim
  | .of x ts, d + 1, h => by
    unfold TmIn at h
    unfold TmLay
    exact ⟨hq _ h.1, lays_in hq hk ts h.2⟩
theorem lays_in {qs : List (Str × Nat)} {ks : List NestedKey} (hq : ∀ q ∈ qs, PyData.strOk q.1 = true) (hk : ∀ k ∈ ks, k.data.canLay0 = true ∧ k.data.depth ≤ 1) : ∀ (ts : List Tm) {d : Nat}, TmsIn qs ks d ts → TmsLay ts
  | [], d, _ => by
    unfold TmsLay
    trivial
  | t :: ts, d, h => by
    unfold TmsIn at h
    unfold TmsLay
    exact ⟨lay_in hq hk t h.1, lays_in hq hk ts h.2⟩
end
/-! ### how long its repr can be -/
mutual
theorem cnt_in {qs : List (Str × Nat)} {ks : List NestedKey} (hq : ∀ q ∈ qs, q.2 ≤ 2 ∧ strSm q.1 = true) (hk : ∀ k ∈ ks, smD k.data = true ∧ cnt k.data ≤ 5) : ∀ (t : Tm) {d : Nat}, TmIn qs ks d t → smD t.data = true ∧ cnt t.data + 4 ≤ 12 * 2 ^ d
  | .var k, d, h => by
    unfold TmIn at h
    obtain ⟨h1, h2⟩ := hk k h
    have s : strSm "var" = true := by decide +kernel
    simp only [Tm.data, smD, smAll, cnt, cntAll, h1, s, Bool.and_self, true_and]
    have : 1 ≤ 2 ^ d := Nat.one_le_two_pow
    omega
  | .of x ts, 0, h => by
    unfold TmIn at h
    exact h.elim
  | .of x ts, d + 1, h => by
    unfold TmIn at h
    obtain ⟨h1, h2⟩ := hq _ h.1
    obtain ⟨h3, h4⟩ := cnts_in hq hk ts h.2
    have s : strSm "of" = true := by decide +kernel
    have h2' : strSm x = true := h2
    simp only [Tm.data, smD, smAll, cnt, cntAll, h2', h3, s, Bool.and_self, true_and]
    have l : ts.length ≤ 2 := h1
    have p : 1 ≤ 2 ^ d := Nat.one_le_two_pow
    have e : 2 ^ (d + 1) = 2 ^ d + 2 ^ d := by rw [Nat.pow_succ]; omega
    rw [e]
    have : ts.length = 0 ∨ ts.length = 1 ∨ ts.length = 2 := by omega
    rcases this with z | z | z <;> rw [z] at h4 <;> omega
theorem cnts_in {qs : List (Str × Nat)} {ks : List NestedKey} (hq : ∀ q ∈ qs, q.2 ≤ 2 ∧ strSm q.1 = true) (hk : ∀ k ∈ ks, smD k.data = true ∧ cnt k.data ≤ 5) : ∀ (ts : List Tm) {d : Nat}, TmsIn qs ks d ts → smAll (Tm.datas ts) = true ∧ cntAll (Tm.datas ts) + 4 * ts.length ≤ ts.length * (12 * 2 ^ d)
  | [], d, _ => by
    simp only [Tm.datas, smAll, cntAll, true_and]
    simp
  | t :: ts, d, h => by
    unfold TmsIn at h
    obtain ⟨a1, a2⟩ := cnt_in hq hk t h.1
    obtain ⟨b1, b2⟩ := cnts_in hq hk ts h.2
    simp only [Tm.datas, smAll, cntAll, a1, b1, Bool.and_self, true_and]
    rw [List.length_cons, Nat.add_mul]
    omega
end
end L2.Vf
/-! The law's own state: what stays while functions are made; comparisons of deep data; a dict's item as a target. -/
namespace L2.Vf
open PySem PySem.Spec PyProof.Rows
open Evl (Ex Ev EvT EvL EvA)
section
variable {K : PySem.W.Frag} {w : World} {H H' H1 H2 : Hp} {S : List Addr} {p c d : Addr} {t : Tm} {ts : List Tm} {k : NestedKey} {ks : List NestedKey} {v : V} {vs : List V} {tb : Tb} {mv : List Mv}
theorem rd_to {a : Addr} {u : HO} (nt : ∀ ps, u ≠ .tbl ps) (h : Rd (L2.Vf.hide S H) a u) : Rd (N.hide S H) a u := by
  rcases h with h | ⟨o, h⟩
  · refine .inl (N.hide_off (fun z => ?_) (N.hide_ex0 h) nt)
    rw [L2.Vf.hide, if_pos z] at h
    cases h
  · refine .inr ⟨o, N.hide_off (fun z => ?_) (N.hide_ex0 h)⟩
    rw [L2.Vf.hide, if_pos z] at h
    cases h
theorem rd_from {a : Addr} {u : HO} (h : Rd (N.hide S H) a u) : Rd (L2.Vf.hide S H) a u := by
  rcases h with h | ⟨o, h⟩
  · obtain ⟨h1, h2, _⟩ := N.hide_inv h
    exact .inl (by rw [L2.Vf.hide_off h1]; exact h2)
  · obtain ⟨h1, h2, _⟩ := N.hide_inv h
    exact .inr ⟨o, by rw [L2.Vf.hide_off h1]; exact h2⟩
theorem rd_N (e : N.But S H H') {a : Addr} {u : HO} (nt : ∀ ps, u ≠ .tbl ps) (h : Rd (hide S H) a u) : Rd (hide S H') a u := rd_from (Evl.ex_rd e (rd_to nt h))
theorem sqt_N (e : N.But S H H') {a : Addr} {xs : List V} (h : SqT K (hide S H) a xs) : SqT K (hide S H') a xs := by
  rcases h with h | h
  · exact .inl (rd_N e (by intro _ z; cases z) h)
  · exact .inr h
theorem sql_N (e : N.But S H H') {a : Addr} {xs : List V} (h : SqL K (hide S H) a xs) : SqL K (hide S H') a xs := by
  rcases h with h | h
  · exact .inl (rd_N e (by intro _ z; cases z) h)
  · exact .inr h
theorem TmV.N (e : N.But S H H') (h : TmV K (hide S H) t v) : TmV K (hide S H') t v := TmV.to (sqt_N e) t v h
theorem KeyV.N (e : N.But S H H') (h : KeyV K (hide S H) k v) : KeyV K (hide S H') k v := KeyV.to (sqt_N e) k v h
theorem KyV.N (e : N.But S H H') (h : KyV K (hide S H) k v) : KyV K (hide S H') k v := KyV.to (sqt_N e) k v h
theorem kl.N (e : N.But S H H') (h : kl K S ks v H) : kl K S ks v H' := by
  obtain ⟨a, vs, rfl, h1, h2⟩ := h
  exact ⟨a, vs, rfl, sql_N e h1, KeyVs.to (sqt_N e) _ _ h2⟩
theorem mxo_nt {d : Addr} {w : World} {mv : List Mv} : ∀ ps, mxo d w mv ≠ .tbl ps := by
  intro _ z
  cases z
theorem Mx.N (e : N.But S H H') (m : Mx K (hide S H) w d mv) : Mx K (hide S H') w d mv :=
  ⟨rd_N e mxo_nt m.obj, fun p hp => ⟨(m.key p hp).1.N e, (m.key p hp).2⟩, m.one, m.len, m.sys⟩
theorem TbR.N (e : N.But S H H') (h : TbR K (hide S H) mv tb) : TbR K (hide S H') mv tb := tbR_mono (sqt_N e) h
theorem bq.N (e : N.But S H H') (h : bq K w S tb v H) : bq K w S tb v H' := by
  obtain ⟨d, ks, rfl, h1, h2⟩ := h
  exact ⟨d, ks, rfl, h1.N e, TbR.N e h2⟩
theorem TabAt.N (e : N.But S H H') (h : TabAt K w S H d tb) : TabAt K w S H' d tb := by
  obtain ⟨mv, h1, h2, h3, h4⟩ := h
  exact ⟨mv, e.get h2 h1 mxo_nt, h2, h3.N e, TbR.N e h4⟩
/-- the source stands while tables of code objects grow -/
theorem Src.extN (h : Src H p c) (e : LamX.ExtN H H') : Src H' p c := by
  obtain ⟨cells, l, m, t, h1, h2⟩ := h
  exact ⟨cells, l, m, t, e _ _ h1 (by intro _ z; cases z), e _ _ h2 (by intro _ z; cases z)⟩
/-- what is read here stands away from the source, too -/
theorem Src.sq (h : Src H p c) {a : Addr} {xs : List V} (g : SqT K H a xs) : SqT K (hide [p, c] H) a xs := by
  obtain ⟨cells, l, m, t, h1, h2⟩ := h
  rcases g with (g | ⟨o, g⟩) | g
  · refine .inl (.inl ?_)
    rw [hide_off]
    · exact g
    · intro z
      simp only [List.mem_cons, List.not_mem_nil, or_false] at z
      rcases z with rfl | rfl
      · rw [h1] at g
        cases g
      · rw [h2] at g
        cases g
  · refine .inl (.inr ⟨o, ?_⟩)
    rw [hide_off]
    · exact g
    · intro z
      simp only [List.mem_cons, List.not_mem_nil, or_false] at z
      rcases z with rfl | rfl
      · rw [h1] at g
        cases g
      · rw [h2] at g
        cases g
  · exact .inr g
theorem Src.tm (h : Src H p c) (g : TmV K H t v) : TmV K (hide [p, c] H) t v := TmV.to h.sq t v g
/-- draws leave the tables of code objects -/
theorem Src.tabs {T : List (Addr × Str)} (h : Src H p c) (b : But [p, c] H H') (T0 : LamX.Tabs T H) : LamX.Tabs T H' := by
  obtain ⟨cells, l, m, t, h1, h2⟩ := h
  refine N.tabs_but b T0 (fun q hq z => ?_) fun c' x e z => ?_
  · obtain ⟨ps, e, _⟩ := T0 q hq
    simp only [List.mem_cons, List.not_mem_nil, or_false] at z
    rcases z with z | z
    · rw [z, h1] at e
      cases e
    · rw [z, h2] at e
      cases e
  · simp only [List.mem_cons, List.not_mem_nil, or_false] at z
    rcases z with rfl | rfl
    · rw [h1] at e
      cases e
    · rw [h2] at e
      cases e
/-- a dict that was locked, free again -/
theorem unlock_ex {x u : HO} (e : Ex (upd H d x) H') (h : H d = some u) : Ex H (upd H' d u) := fun b o hb => by
  by_cases z : b = d
  · rw [z] at hb ⊢
    rw [upd_same, ← h, hb]
  · rw [upd_ne z]
    exact e b o (by rw [upd_ne z]; exact hb)
/-! ### tables joined -/
def tMerge (acc tb : Tb) : Tb := tb.foldl (fun acc r => tPut acc r.1 r.2) acc
theorem tMerge_app : ∀ (tb acc : Tb), ((acc ++ tb).map (·.1)).Nodup → tMerge acc tb = acc ++ tb
  | [], acc, _ => by
    show acc = acc ++ []
    rw [List.append_nil]
  | r :: tb, acc, n => by
    show tMerge (tPut acc r.1 r.2) tb = _
    have e : tPut acc r.1 r.2 = acc ++ [r] := by
      unfold tPut
      have z : tLook acc r.1 = none := tLook_none.mpr fun q => by
        rw [List.map_append, List.nodup_append] at n
        exact n.2.2 _ q r.1 (by simp) rfl
      rw [z, if_neg (by simp)]
    rw [e, tMerge_app tb (acc ++ [r]) (by rw [List.append_assoc]; exact n), List.append_assoc]
    rfl
theorem tbR_merge : ∀ {mv : List Mv} {tb : Tb} {acc : List Mv} {ta : Tb}, TbR K H mv tb → TbR K H acc ta → TbR K H (mergeM acc mv) (tMerge ta tb)
  | _, _, acc, ta, .nil, h => h
  | _, _, acc, ta, .cons (a := r) (b := q) hr h2, h => by
    show TbR K H (mergeM (pM acc r.1 r.2.1 r.2.2) _) (tMerge (tPut ta q.1 q.2) _)
    obtain ⟨e, ht⟩ := hr
    refine tbR_merge h2 ?_
    rw [e]
    exact tbR_put h q.1 ht
theorem tbR_keys : ∀ {mv : List Mv} {tb : Tb}, TbR K H mv tb → mv.map (·.1) = tb.map (·.1)
  | _, _, .nil => rfl
  | _, _, .cons hr h => by rw [List.map_cons, List.map_cons, hr.1, tbR_keys h]
/-! ### terms and tables as data -/
theorem drAll_strs {xs : List Str} : DpAll K H (xs.map V.str) (xs.map PyData.str) := by
  induction xs with
  | nil => exact .nil
  | cons x xs ih => exact .cons (.str x) ih
def tbD (tb : Tb) : PyData := .dict (tb.map fun r => (r.1.data, r.2.data))
theorem tbR_dr : ∀ {mv : List Mv} {tb : Tb}, (∀ r ∈ mv, KeyV K H r.1 r.2.1) → TbR K H mv tb → DrKv K w H mv (tb.map fun r => (r.1.data, r.2.data))
  | _, _, _, .nil => .nil
  | _, _, hk, .cons (b := q) hr h => by
    have z := hk _ List.mem_cons_self
    rw [hr.1] at z
    exact .cons (KeyV.dr _ _ z) (TmV.dr _ _ hr.2) (tbR_dr (fun r hr => hk r (List.mem_cons_of_mem _ hr)) h)
theorem tab_dr (m : Mx K H w d mv) (hk : ∀ r ∈ mv, KeyV K H r.1 r.2.1) (h : TbR K H mv tb) : Dr K w H (.ref d) (tbD tb) := .dct m (tbR_dr hk h)
end
/-! ### y not in d -/
section
variable {X : Cx} {pins : List (Addr × Obj)} {σ : St} {H : Hp} {s : Shared} {d : Addr} {ks : List Mv} {k : NestedKey} {y v : V} {u r : Value} {A : Around} {E : Value → Shared → Prop}
/-- y not in d -/
theorem m_notIn {Q : Value → Shared → Prop} (hu : A.units + 40 < cLine) (I : Inv X pins σ H s) (m : Mx X.K H X.w d ks) (hk : KyV X.K H k y) (dk : k.depth ≤ 8) (ry : RelV y u)
    (h : ∀ s', Inv X pins σ H s' → Q (.bool (!(vM ks k).isSome)) s') : wpAny (model X.prog X.w) A (compareOp .NotIn u (.ref d)) Q E s := by
  obtain ⟨xs, M, hp⟩ := m.at_ I
  have same := (rows_find hp k).isSome_eq
  show wpAny _ _ (do return .bool (!(← contains (.ref d) u))) Q E s
  refine wpAny_bind ?_
  unfold contains
  try with_reducible refine wpAny_holding ?_
  refine wpAny_bind (wpAny_specialOf M.typeIs slot_dict_contains.lookup ?_)
  show wpAny _ _ (if (some (Value.builtin "dict.__contains__") == some Value.none) = true then _ else _) _ E s
  rw [if_neg (by rw [beq_builtin_none]; exact Bool.false_ne_true)]
  refine wpAny_bind (wpAny_callSpecialUnlessNone?_slot (name := Str.ofString "__contains__") M.typeIs slot_dict_contains
    (wpAny_call_entry slot_dict_contains M.typeIs entry_dict_contains ?_ (args_dict_contains _ _)))
  show wpAny _ _ (dictGet d u >>= _) _ _ s
  refine wpAny_bind (get_mix (by show A.units + 1 + 16 < _; omega) (KyV.is I _ _ _ hk ry) dk M ?_)
  cases hf : mGet xs k with
  | some r =>
    rw [hf] at same
    have z := h { s with toks := s.toks + k.draws } (I.tok _)
    rw [same] at z
    exact wpAny_pure ⟨_, rfl, wpAny_truthy_bool (wpAny_pure z)⟩
  | none =>
    rw [hf] at same
    have z := h { s with toks := s.toks + k.draws } (I.tok _)
    rw [same] at z
    show wpAny _ _ (Builtin.Dict.pendingKey? d u >>= _) _ _ _
    exact wpAny_bind (wpAny_pendingKey_other m.sys (wpAny_pure ⟨_, rfl, wpAny_truthy_bool (wpAny_pure z)⟩))
end
/-! ### deep data compared -/
section
variable {X : Cx}
def rEqDN (K : PySem.W.Frag) (n : Nat) : R2 := fun x y H Q => ∃ d e, Dp K H x d ∧ Dp K H y e ∧ d.canLay0 = true ∧ e.canLay0 = true ∧ d.depth ≤ n ∧ Q (.bl (PyData.eqv d e)) H
theorem op_eqDN {K : PySem.W.Frag} {n : Nat} (hu : X.A.units + n < cLine) (hK : X.K = K := by rfl) : OpR X (compareOp .Eq) (rEqDN K n) := by
  subst hK
  intro pins s σ H x y v u Q I rx ry h
  obtain ⟨d, e, hd, he, sd, se, dd, q⟩ := h
  obtain ⟨as, r1⟩ := Dp.reads I d x v hd rx
  obtain ⟨bs, r2⟩ := Dp.reads I e y u he ry
  exact SeqAt.compareEq_reads r1 r2 sd se (by have := Nat.min_le_left d.depth e.depth; omega) ⟨.bl _, H, I, rfl, q⟩
def rSetM (K : PySem.W.Frag) (w : World) : TSet := fun o i v H Q => ∃ (d : Addr) (ks : List Mv) (k : NestedKey), o = .ref d ∧ Mx K H w d ks ∧ H d = some (mxo d w ks) ∧ KyV K H k i ∧ k.depth ≤ 8 ∧ ks.length < 1000 ∧ Q (upd H d (mxo d w (pM ks k i v)))
theorem call_isiK0 {K : PySem.W.Frag} (hK : X.K = K := by rfl) : CallR X (.builtin "isinstance") (rIsi K) := by
  subst hK
  exact call_isi
theorem set_mixS {K : PySem.W.Frag} {w : World} (hu : X.A.units + 40 < cLine) (hK : X.K = K := by rfl) (hw : X.w = w := by rfl) : PSet X (rSetM K w) := by
  subst hK hw
  intro pins s σ H o i v ov iv u Q I ro ri rv h
  obtain ⟨d, ks, k, rfl, m, ow, hk, dk, hl, q⟩ := h
  obtain rfl : ov = Value.ref d := ro
  exact m_setItem hu I m ow hk dk ri rv hl fun s4 I4 => ⟨_, I4, q⟩
theorem op_notInM {K : PySem.W.Frag} {w : World} (hu : X.A.units + 40 < cLine) (hK : X.K = K := by rfl) (hw : X.w = w := by rfl) :
    OpR X (compareOp .NotIn) (fun y x H Q => ∃ (d : Addr) (ks : List Mv) (k : NestedKey), x = .ref d ∧ Mx K H w d ks ∧ KyV K H k y ∧ k.depth ≤ 8 ∧ Q (.bl (!(vM ks k).isSome)) H) := by
  subst hK hw
  intro pins s σ H x y v u Q I rx ry h
  obtain ⟨d, ks, k, rfl, m, hk, dk, q⟩ := h
  obtain rfl := ry
  exact m_notIn hu I m hk dk rx fun s' I' => ⟨.bl _, H, I', rfl, q⟩
theorem units60 {k : Nat} {A : Around} (r : Room k A) : A.units + 60 < cLine := by have := r.un; omega
theorem units150 {k : Nat} {A : Around} (r : Room k A) : A.units + 150 < cLine := by have := r.un; omega
theorem units190 {k : Nat} {A : Around} (r : Room k A) : A.units + 190 < cLine := by have := r.un; omega
/-- a tuple is one -/
theorem tup_ty {K : PySem.W.Frag} {H : Hp} {a : Addr} {xs : List V} (h : SqT K H a xs) : TyX K H (.ref a) (.type "tuple") := by
  rcases h with (h | ⟨o, h⟩) | ⟨o, its, n, h1, h2, _⟩
  · exact .base (.tup h)
  · exact .fTuple h
  · exact .kTuple h1 h2
end
end L2.Vf
/-! A field, also in comprehensions. -/
namespace L2.Vf
open PySem PySem.Spec PyProof.Rows
theorem pe_fldK {K : PySem.W.Frag} {X : Cx} {e : Expr} {f : Str} {pos : Pos} {ta : TE} (he : PE X e ta) (hb : attributeBase e f X.env (eval e X.env) = eval e X.env) (hK : X.K = K := by rfl) : PE X (.Attribute e f pos) (tFld K ta f) := by
  subst hK
  exact pe_fld he hb
end L2.Vf
/-! A source of draws that may have one more entry. -/
namespace L2.Vf
open PySem PySem.Spec PyProof.Rows
open Evl (Ex Ev EvT EvL EvA)
/-- the further entry -/
def Mts (e : List (Key × V)) : Prop := e = [] ∨ ∃ b, e = [(.inr "meets", .bl b)]
abbrev s2Kv (c : Addr) (l m t : Int) (e : List (Key × V)) : List (Key × V) := (.inr "cells", .ref c) :: (.inr "left", .int l) :: (.inr "mixed", .int m) :: (.inr "turn", .int t) :: e
def Src2 (H : Hp) (p c : Addr) : Prop := ∃ (cells : List Int) (l m t : Int) (e : List (Key × V)), H p = some (.dK (s2Kv c l m t e)) ∧ Mts e ∧ H c = some (.lst (cells.map V.int))
section
variable {H H' : Hp} {p c : Addr} {l m t : Int} {e : List (Key × V)}
theorem Src2.ex (h : Src2 H p c) (x : Ex H H') : Src2 H' p c := by
  obtain ⟨cells, l, m, t, e, h1, h2, h3⟩ := h
  exact ⟨cells, l, m, t, e, x _ _ h1, h2, x _ _ h3⟩
theorem Src2.off {q : Addr} {o : HO} (h : Src2 H p c) (n : q ∉ [p, c]) : Src2 (upd H q o) p c := by
  obtain ⟨cells, l, m, t, e, h1, h2, h3⟩ := h
  exact ⟨cells, l, m, t, e, by rw [upd_ne (fun z => n (by rw [← z]; simp))]; exact h1, h2, by rw [upd_ne (fun z => n (by rw [← z]; simp))]; exact h3⟩
theorem Src2.kn (h : Src2 H p c) : Kn [p, c] H := fun b hb => by
  obtain ⟨cells, l, m, t, e, h1, h2, h3⟩ := h
  simp only [List.mem_cons, List.not_mem_nil, or_false] at hb
  rcases hb with rfl | rfl
  · exact ⟨_, h1⟩
  · exact ⟨_, h3⟩
theorem mts_len (h : Mts e) : (s2Kv c l m t e).length ≤ 5 := by
  rcases h with rfl | ⟨b, rfl⟩
  · show 4 ≤ 5; omega
  · exact Nat.le_refl 5
theorem g2_cells (h : H p = some (.dK (s2Kv c l m t e))) : DGet H p (.str "cells") (some (.ref c)) := DGet.k (k := Sum.inr "cells") h
theorem g2_left (h : H p = some (.dK (s2Kv c l m t e))) : DGet H p (.str "left") (some (.int l)) := DGet.k (k := Sum.inr "left") h
theorem g2_mixed (h : H p = some (.dK (s2Kv c l m t e))) : DGet H p (.str "mixed") (some (.int m)) := DGet.k (k := Sum.inr "mixed") h
theorem g2_turn (h : H p = some (.dK (s2Kv c l m t e))) : DGet H p (.str "turn") (some (.int t)) := DGet.k (k := Sum.inr "turn") h
theorem g2_meets {b : Bool} (h : H p = some (.dK (s2Kv c l m t [(.inr "meets", .bl b)]))) : DGet H p (.str "meets") (some (.bl b)) := DGet.k (k := Sum.inr "meets") h
theorem g2_none (h : H p = some (.dK (s2Kv c l m t []))) : DGet H p (.str "meets") none := DGet.k (k := Sum.inr "meets") h
theorem p2_left (h : H p = some (.dK (s2Kv c l m t e))) (he : Mts e) (x : Int) : DPut H p (.str "left") (.int x) (upd H p (.dK (s2Kv c x m t e))) := by
  rcases he with rfl | ⟨b, rfl⟩
  · exact DPut.k (k := Sum.inr "left") h (small1000 (by show (4 : Nat) ≤ 1000; decide))
  · exact DPut.k (k := Sum.inr "left") h (small1000 (by show (5 : Nat) ≤ 1000; decide))
theorem p2_turn (h : H p = some (.dK (s2Kv c l m t e))) (he : Mts e) (x : Int) : DPut H p (.str "turn") (.int x) (upd H p (.dK (s2Kv c l m x e))) := by
  rcases he with rfl | ⟨b, rfl⟩
  · exact DPut.k (k := Sum.inr "turn") h (small1000 (by show (4 : Nat) ≤ 1000; decide))
  · exact DPut.k (k := Sum.inr "turn") h (small1000 (by show (5 : Nat) ≤ 1000; decide))
theorem p2_meets (h : H p = some (.dK (s2Kv c l m t []))) (b : Bool) : DPut H p (.str "meets") (.bl b) (upd H p (.dK (s2Kv c l m t [(.inr "meets", .bl b)]))) :=
  DPut.k (k := Sum.inr "meets") h (small1000 (by show (4 : Nat) ≤ 1000; decide))
theorem p2_any (h : H p = some (.dK (s2Kv c l m t e))) (he : Mts e) (b : Bool) : DPut H p (.str "meets") (.bl b) (upd H p (.dK (s2Kv c l m t [(.inr "meets", .bl b)]))) := by
  rcases he with rfl | ⟨b', rfl⟩
  · exact DPut.k (k := Sum.inr "meets") h (small1000 (by show (4 : Nat) ≤ 1000; decide))
  · exact DPut.k (k := Sum.inr "meets") h (small1000 (by show (5 : Nat) ≤ 1000; decide))
end
def spSource2 (K : PySem.W.Frag) : Sp := fun vs H Q _ => ∃ (a : Addr) (ns : List Int), vs = [.ref a] ∧ SqL K H a (ns.map V.int) ∧ ns.length ≤ 63 ∧
  ∀ p c H', H p = none → H c = none → Ex H H' → Src2 H' p c → Q (.ref p) H'
def spPick2 : Sp := fun vs H Q _ => ∃ (p c : Addr) (n : Int), vs = [.ref p, .int n] ∧ Src2 H p c ∧ 1 ≤ n ∧ n < 1000000 ∧
  ∀ r H', 0 ≤ r → r < n → Src2 H' p c → But [p, c] H H' → Q (.int r) H'
def spOf2 (K : PySem.W.Frag) : Sp := fun vs H Q _ => ∃ (p c a : Addr) (xs : List V), vs = [.ref p, .ref a] ∧ Src2 H p c ∧ SqL K (hide [p, c] H) a xs ∧ 1 ≤ xs.length ∧ xs.length ≤ 1000 ∧
  ∀ (j : Nat) v H', xs[j]? = some v → Src2 H' p c → But [p, c] H H' → Q v H'
end L2.Vf
/-! The source of draws. -/
namespace L2.Vf.K01
open PySem PySem.Spec PyProof.Rows
open Evl (Ex Ev EvT EvL EvA)
def top (i : Nat) : Stmt := PySem.Challenge.pw_movedactors_k01_books_judged.main.body.getD i (.Pass ⟨0, 0, 0, 0⟩)
/-- a def that keeps sp -/
def Has (P : Program) (w : World) (K : PySem.W.Frag) (mg : Str → Option Value) (base : Heap) (k : Nat) (x : Str) (ps : List Str) (sp : Sp) : Prop :=
  ∃ f fd, FnOk P w K mg base CX0 k f fd ps sp ∧ mg x = some (.ref f) ∧ PySem.W.keepIn K (.ref f) = true ∧ Binds K fd ps []
abbrev s__law_source : Stmt := top 27
abbrev s__law_pick : Stmt := top 28
section
variable {P : Program} {w : World} {K : PySem.W.Frag} {mg : Str → Option Value} {base : Heap} {f : Addr} {fd : FuncData}
abbrev n__law_source : List Str := ["_law_script", "_law_mixed", "_law_cell", "_law_cells", "_law_k"]
theorem sc__law_source : FnScope n__law_source ["_law_script"] (defScope s__law_source) := ⟨rfl, rfl, rfl, by decide +kernel, rfl, by decide +kernel, by decide +kernel⟩
theorem ok_source (F : Fun K "_law_source" "_law_source" s__law_source f fd) (m_int : mg "int" = none) (m_abs : mg "abs" = none) (m_len : mg "len" = none) (m_range : mg "range" = none) :
    FnOk P w K mg base CX0 1 f fd ["_law_script"] (spSource2 K) := by
  refine F.ok sc__law_source (fun vs H Q E h => ?_) (fun cdv A outer s H vs Q E hr h => ?_)
  · obtain ⟨a, ns, rfl, _⟩ := h
    rfl
  obtain ⟨a, ns, rfl, hS, hl, q⟩ := h
  refine ⟨_, (pss_cons (ps_set (i := 1) sc__law_source.nd rfl (.inl rfl) pe_int)
  (pss_cons (ps_for PassesOwn.never rfl (pi_list (pv 0)) (pg_name (i := 2) sc__law_source.nd rfl (.inl rfl))
  (pss_one (ps_set (i := 1) sc__law_source.nd rfl (.inl rfl) (pe_op op_mod (pe_callTy call_int1 (by rfl) m_int (by decide +kernel) (pa_cons (pe_op op_add (pe_op op_add (pe_op op_mul (pv 1) pe_int) (pe_op op_mul (pv 2) pe_int)) pe_int) pa_nil)) pe_int))))
  (pss_cons (ps_set (i := 3) sc__law_source.nd rfl (.inr rfl) (pe_lc (own := [("_law_cell", 2)]) (g := gName 2) (tt := _) rfl sc__law_source.nd (pi_list (pv 0)) (blkOk_by (N := n__law_source) (sc := defScope s__law_source) (by decide +kernel)) (fun _ _ _ _ _ => (pg_name (i := 2) sc__law_source.nd rfl (.inl rfl))) (fun _ _ _ _ _ => pts_nil) (fun _ _ _ _ _ => (pe_callB call_abs (by rfl) m_abs (by decide +kernel) (pa_cons (pv 2) pa_nil)))))
  (pss_one (ps_ret (pe_disp (pps_cons pe_str (pe_lc (own := [("_law_k", 4)]) (g := gName 4) (tt := _) rfl sc__law_source.nd (pi_range1 rfl m_range (pa_cons (pe_callB (call_lenK (K := K)) (by rfl) m_len PySem.boot_len (pa_cons (pv 3) pa_nil)) pa_nil)) (blkOk_by (N := n__law_source) (sc := defScope s__law_source) (by decide +kernel)) (fun _ _ _ _ _ => (pg_name (i := 4) sc__law_source.nd rfl (.inl rfl))) (fun _ _ _ _ _ => pts_nil) (fun _ _ _ _ _ => (pe_ix (ix_listK (K := K)) (pv 3) (pe_op op_sub (pe_op op_sub (pe_callB (call_lenK (K := K)) (by rfl) m_len PySem.boot_len (pa_cons (pv 3) pa_nil)) pe_int) (pv 4)) (fun _ _ => rfl)))) (pps_cons pe_str pe_int (pps_cons pe_str (pv 1) (pps_cons pe_str pe_int pps_nil)))) rfl rfl (fun z => by cases z) (by decide))))))), ?_⟩
  refine ⟨_, rfl, a, rfl, ⟨_, hS⟩, for_list (K := K) (a := a) (xs := ns.map V.int) (fun i σ H2 => ∃ (m : Int) (y2 : Option V),
    σ = [some (.ref a), some (.int m), y2, none, none] ∧ H2 = H) ⟨11, none, rfl, rfl⟩ (fun i σ H2 _ h => by obtain ⟨_, _, _, rfl⟩ := h; exact hS) ?_ ?_⟩
  · rintro i x σ H2 hi ⟨m, y2, rfl, rfl⟩
    obtain ⟨z, rfl⟩ : ∃ z, x = V.int z := by
      rw [List.getElem?_map] at hi
      cases e : ns[i]? with
      | none => rw [e] at hi; cases hi
      | some z => rw [e] at hi; exact ⟨z, (Option.some.inj hi).symm⟩
    refine ⟨_, rfl, _, _, rfl, rfl, .inr (by decide), _, rfl, _, _, rfl, rfl, .inr (by decide), ?_⟩
    exact ⟨_, _, rfl, rfl, _, _, rfl, rfl, .inl ⟨_, rfl, _, _, rfl, rfl, (by show (0 : Int) < 2147483629; decide), _, _, rfl, rfl⟩⟩
  · rintro σ H2 ⟨m, y2, rfl, rfl⟩
    refine ⟨_, rfl, a, rfl, ⟨_, hS⟩, fun D nD => ?_⟩
    refine lc_list (K := K) (a := a) (xs := ns.map V.int) (fun i H3 => ∃ ys : List Int, ys.length = i ∧ H3 D = some (.lst (ys.map V.int)) ∧ Ex H2 H3)
      ⟨[], rfl, upd_same, Ex.new nD⟩ (fun i H3 _ h => by obtain ⟨_, _, _, e⟩ := h; exact Evl.ex_l e hS) ?_ ?_
    · rintro i x H3 hi ⟨ys, rfl, hD, e⟩
      have hil := (List.getElem?_eq_some_iff.mp hi).1
      rw [List.length_map] at hil
      obtain ⟨z, rfl⟩ : ∃ z, x = V.int z := by
        obtain ⟨z, _, hz⟩ := List.mem_map.mp (List.mem_of_getElem? hi)
        exact ⟨z, hz.symm⟩
      refine ⟨rfl, ?_⟩
      refine ⟨_, rfl, _, rfl, ys.map V.int, hD, small1000 (by rw [List.length_map]; omega), ys ++ [if z < 0 then -z else z], by simp, ?_, e.mut nD⟩
      rw [upd_same, List.map_append]
      rfl
    · rintro H3 ⟨ys, hy, hD, e3⟩
      rw [List.length_map] at hy
      intro p np
      have e1 : Ex H3 (upd H3 p (.dK [])) := Ex.new np
      have hD1 := e1 _ _ hD
      refine ⟨_, rfl, D, _, rfl, .inl (SqL.of hD1), _, rfl, by rw [List.length_map]; omega, by rw [List.length_map]; omega, fun D2 nD2 => ?_⟩
      have npD2 : p ≠ D2 := ne_of_none upd_same nD2
      refine lc_range (lo := 0) (n := ((ys.map V.int).length : Int).toNat) (fun i H4 => ∃ zs : List Int, zs.length = i ∧ H4 D2 = some (.lst (zs.map V.int)) ∧ Ex (upd H3 p (.dK [])) H4) ⟨[], rfl, upd_same, Ex.new nD2⟩ ?_ ?_
      · rintro i H4 hi ⟨zs, rfl, hD2, e4⟩
        rw [Int.toNat_natCast, List.length_map] at hi
        have hD4 := e4 _ _ hD1
        obtain ⟨v, hv⟩ : ∃ v, ys[ys.length - 1 - zs.length]? = some v := ⟨_, List.getElem?_eq_getElem (by omega)⟩
        have ea : atI (ys.map V.int) (((ys.map V.int).length : Int) - 1 - (0 + (zs.length : Int))) = some (.int v) := by
          have e0 : (((ys.map V.int).length : Int) - 1 - (0 + (zs.length : Int))) = ((ys.length - 1 - zs.length : Nat) : Int) := by rw [List.length_map]; omega
          rw [e0]
          exact atI_nat (by rw [List.getElem?_map, hv]; rfl)
        refine ⟨rfl, _, rfl, _, rfl, D, _, rfl, .inl (SqL.of hD4), _, _, rfl, rfl, _, rfl, _, _, rfl, rfl, D, _, _, _, rfl, rfl, SqL.of hD4, ea, ?_⟩
        refine ⟨_, hD2, small1000 (by rw [List.length_map]; omega), zs ++ [v], by simp, ?_, e4.mut nD2⟩
        rw [upd_same, List.map_append]
        rfl
      · rintro H4 ⟨zs, hz, hD2, e4⟩
        have hp4 : H4 p = some (.dK []) := e4 _ _ upd_same
        refine ⟨_, rfl, hp4, [(.inr "cells", .ref D2), (.inr "left", .int 1), (.inr "mixed", .int m), (.inr "turn", .int 0)], rfl, (by show (4 : Nat) ≤ 15; decide), ?_⟩
        have npH : H2 p = none := Evl.fresh_back e3 np
        have ncH : H2 D2 = none := Evl.fresh_back (e3.trans e1) nD2
        refine q p D2 _ npH ncH (((e3.trans e1).trans e4).mut npH) ⟨zs, 1, m, 0, [], ?_, .inl rfl, ?_⟩
        · rw [upd_same]
          rfl
        · rw [upd_ne npD2.symm]
          exact hD2
abbrev n__law_pick : List Str := ["_law_source_here", "_law_many", "_law_cells", "_law_left", "_law_mixed"]
theorem sc__law_pick : FnScope n__law_pick ["_law_source_here", "_law_many"] (defScope s__law_pick) := ⟨rfl, rfl, rfl, by decide +kernel, rfl, by decide +kernel, by decide +kernel⟩
theorem ok_pick (F : Fun K "_law_pick" "_law_pick" s__law_pick f fd) (m_int : mg "int" = none) (m_len : mg "len" = none) :
    FnOk P w K mg base CX0 1 f fd ["_law_source_here", "_law_many"] spPick2 := by
  refine F.ok sc__law_pick (fun vs H Q E h => ?_) (fun cdv A outer s H vs Q E hr h => ?_)
  · obtain ⟨p, c, n, rfl, _⟩ := h
    rfl
  obtain ⟨p, c, n, rfl, hS, h1, h2, q⟩ := h
  have hu := hu_of hr
  refine ⟨_, (pss_cons (ps_if (pt_cmpR op_lt (pv 1) pe_int (nomark _))
  (pss_one (ps_ret pe_int))
  pss_nil)
  (pss_cons (ps_set (i := 2) sc__law_pick.nd rfl (.inl rfl) (pe_dget hu (pv 0) pe_str (fun _ _ => rfl)))
  (pss_cons (ps_while PassesOwn.never (PW.pt (pw_and (pt_cmpR op_lt (pe_dget hu (pv 0) pe_str (fun _ _ => rfl)) pe_int (nomark _)) (pw_and1 (pt_cmpR op_gt (pe_callB (call_lenK (K := K)) (by rfl) m_len PySem.boot_len (pa_cons (pv 2) pa_nil)) pe_int (nomark _)))))
  (pss_one (ps_dput hu (pv 0) pe_str (pe_bm0 PySem.F.plainAttrs_list PySem.F.slot_list_pop PySem.F.type_list_pop mt_pop (pv 2)) rfl)))
  (pss_cons (ps_set (i := 3) sc__law_pick.nd rfl (.inl rfl) (pe_dget hu (pv 0) pe_str (fun _ _ => rfl)))
  (pss_cons (ps_if (pt_cmpR op_gt (pv 3) pe_int (nomark _))
  (pss_cons (ps_dput hu (pv 0) pe_str (pe_op op_fdivN (pv 3) (pv 1)) rfl)
  (pss_one (ps_ret (pe_op op_mod (pe_callTy call_int1 (by rfl) m_int (by decide +kernel) (pa_cons (pv 3) pa_nil)) (pv 1)))))
  pss_nil)
  (pss_cons (ps_dput hu (pv 0) pe_str (pe_op op_add (pe_dget hu (pv 0) pe_str (fun _ _ => rfl)) pe_int) rfl)
  (pss_cons (ps_set (i := 4) sc__law_pick.nd rfl (.inl rfl) (pe_op op_mod (pe_callTy call_int1 (by rfl) m_int (by decide +kernel) (pa_cons (pe_op op_add (pe_dget hu (pv 0) pe_str (fun _ _ => rfl)) (pe_op op_mul (pe_dget hu (pv 0) pe_str (fun _ _ => rfl)) pe_int)) pa_nil)) pe_int))
  (pss_cons (ps_set (i := 4) sc__law_pick.nd rfl (.inl rfl) (pe_op op_mod (pe_callTy call_int1 (by rfl) m_int (by decide +kernel) (pa_cons (pe_op op_add (pe_op op_mul (pv 4) (pv 4)) (pe_op op_mul (pe_dget hu (pv 0) pe_str (fun _ _ => rfl)) pe_int)) pa_nil)) pe_int))
  (pss_one (ps_ret (pe_op op_mod (pe_callTy call_int1 (by rfl) m_int (by decide +kernel) (pa_cons (pe_op op_fdivN (pv 4) pe_int) pa_nil)) (pv 1)))))))))))), ?_⟩
  obtain ⟨cells, l, m, t, mt, hp, hm, hc⟩ := hS
  have npc : p ≠ c := ne_of hp hc (by intro z; cases z)
  refine ⟨_, rfl, _, _, rfl, rfl, _, rfl, ite2 (fun z => ?_) (fun z => ?_)⟩
  · have z1 : n < 2 := of_decide_eq_true z
    exact q 0 H (Int.le_refl 0) (by omega) ⟨cells, l, m, t, mt, hp, hm, hc⟩ But.refl
  have n2 : 2 ≤ n := by
    have z1 : ¬ n < 2 := fun y => z (decide_eq_true y)
    omega
  refine ⟨_, rfl, p, _, rfl, g2_cells hp, ?_⟩
  refine while_e (fun σ H2 => σ = [some (.ref p), some (.int n), some (.ref c), none, none] ∧ But [p, c] H H2 ∧
      ∃ (cells : List Int) (l : Int), H2 p = some (.dK (s2Kv c l m t mt)) ∧ H2 c = some (.lst (cells.map V.int)))
    (fun σ H2 => σ = [some (.ref p), some (.int n), some (.ref c), none, none] ∧ But [p, c] H H2 ∧
      ∃ (cells : List Int) (l : Int), H2 p = some (.dK (s2Kv c l m t mt)) ∧ H2 c = some (.lst (cells.map V.int))) (fun _ H2 => lenAt c H2)
    ⟨rfl, But.refl, cells, l, hp, hc⟩ ?_ ?_ ?_
  · rintro σ H2 ⟨rfl, b, xs, y, hp2, hc2⟩
    refine ⟨_, rfl, p, _, rfl, g2_left hp2, _, _, rfl, rfl, _, rfl, ite2 (fun _ => ?_) (fun _ => iteF ⟨rfl, b, xs, y, hp2, hc2⟩)⟩
    refine ⟨_, rfl, c, _, rfl, .inl (SqL.of hc2), _, _, rfl, rfl, _, rfl, ?_⟩
    cases xs with
    | nil => exact iteF ⟨rfl, b, [], y, hp2, hc2⟩
    | cons z0 zs =>
      refine ite2 (fun _ => ?_) (fun z => (z (decide_eq_true (by simp))).elim)
      obtain ⟨v, hv⟩ : ∃ v, (z0 :: zs)[(z0 :: zs).length - 1]? = some v := ⟨_, List.getElem?_eq_getElem (by simp)⟩
      refine ⟨_, rfl, .inl ⟨rfl, _, SqL.of hc2⟩, c, _, .int v, rfl, rfl, hc2, by rw [List.length_map, List.getElem?_map, hv]; rfl, ?_⟩
      have hp4 : (upd H2 c (.lst ((z0 :: zs).map V.int).dropLast)) p = some (.dK (s2Kv c y m t mt)) := by
        rw [upd_ne npc]
        exact hp2
      refine ⟨_, rfl, p, _, rfl, p2_left hp4 hm v, ⟨rfl, But.by fun x o x1 hx => ?_, (z0 :: zs).dropLast, v, upd_same, ?_⟩, ?_⟩
      · rw [upd_ne (fun z => x1 (by rw [z]; simp)), upd_ne (fun z => x1 (by rw [z]; simp))]
        exact b.get x1 hx
      · rw [upd_ne npc.symm, upd_same, List.map_dropLast]
      · unfold lenAt
        rw [upd_ne npc.symm, upd_same, hc2]
        show ((z0 :: zs).map V.int).dropLast.length < ((z0 :: zs).map V.int).length
        rw [List.length_dropLast, List.length_map]
        simp
  · rintro σ H2 ⟨rfl, b, xs, y, hp2, hc2⟩
    have n0 : n ≠ 0 := by omega
    have put : ∀ {y m2 t2 : Int} {o : HO}, o = .dK (s2Kv c y m2 t2 mt) → Src2 (upd H2 p o) p c ∧ But [p, c] H (upd H2 p o) := by
      rintro y m2 t2 o rfl
      refine ⟨⟨xs, y, m2, t2, mt, upd_same, hm, ?_⟩, But.by fun x o x1 hx => ?_⟩
      · rw [upd_ne npc.symm]
        exact hc2
      · rw [upd_ne (fun z => x1 (by rw [z]; simp))]
        exact b.get x1 hx
    refine ⟨_, rfl, p, _, rfl, g2_left hp2, _, rfl, _, _, rfl, rfl, _, rfl, ite2 (fun _ => ?_) (fun _ => ?_)⟩
    · refine ⟨_, rfl, _, rfl, _, _, rfl, rfl, ⟨n0, by omega⟩, _, rfl, p, _, rfl, p2_left hp2 hm _, ?_⟩
      refine ⟨_, rfl, .inl ⟨_, rfl, _, rfl, _, _, rfl, rfl, (by show 0 < n; omega), ?_⟩⟩
      obtain ⟨s1, s2⟩ := put (y := y.fdiv n) (m2 := m) (t2 := t) rfl
      exact q _ _ (Int.emod_nonneg _ n0) (Int.emod_lt_of_pos _ (by omega)) s1 s2
    · refine ⟨_, rfl, p, _, rfl, g2_turn hp2, _, _, rfl, rfl, _, rfl, p, _, rfl, p2_turn hp2 hm _, ?_⟩
      have hp3 : (upd H2 p (.dK (s2Kv c y m (t + 1) mt))) p = some (.dK (s2Kv c y m (t + 1) mt)) := upd_same
      refine ⟨_, rfl, p, _, rfl, g2_mixed hp3, _, rfl, p, _, rfl, g2_turn hp3, _, _, rfl, rfl, .inr (by decide), _, _, rfl, rfl, .inl ⟨_, rfl, _, _, rfl, rfl, (by show (0 : Int) < 998244353; decide), ?_⟩⟩
      have m1 := Int.emod_nonneg (m + (t + 1) * 104729) (by decide : (998244353 : Int) ≠ 0)
      have m2 := Int.emod_lt_of_pos (m + (t + 1) * 104729) (by decide : (0 : Int) < 998244353)
      refine ⟨_, rfl, _, rfl, _, _, rfl, rfl, .inl ⟨by omega, by omega⟩, _, rfl, p, _, rfl, g2_turn hp3, _, _, rfl, rfl, .inr (by decide), _, _, rfl, rfl, .inl ⟨_, rfl, _, _, rfl, rfl, (by show (0 : Int) < 2147483647; decide), ?_⟩⟩
      refine ⟨_, rfl, _, _, rfl, rfl, ⟨by decide, by decide⟩, .inl ⟨_, rfl, _, rfl, _, _, rfl, rfl, (by show 0 < n; omega), ?_⟩⟩
      obtain ⟨s1, s2⟩ := put (y := y) (m2 := m) (t2 := t + 1) rfl
      exact q _ _ (Int.emod_nonneg _ n0) (Int.emod_lt_of_pos _ (by omega)) s1 s2
  · rintro σ H2 Q1 Q2 mono ⟨v1, e1, a1, w1, e2, g1, i1, j1, e3, e4, k1, e5, z⟩
    refine ⟨v1, e1, a1, w1, e2, g1, i1, j1, e3, e4, k1, e5, ?_⟩
    cases k1 with
    | false => exact mono _ _ z
    | true =>
      obtain ⟨v2, e6, p2, ys, e7, g2, i2, j2, e8, e9, k2, e10, z⟩ := z
      exact ⟨v2, e6, p2, ys, e7, g2, i2, j2, e8, e9, k2, e10, mono _ _ z⟩
end
end L2.Vf.K01
/-! Dicts of mixed keys: len, truth, isinstance, list(d.items()). -/
namespace L2.Vf
open PySem PySem.Spec PyProof.Rows
section
variable {prog : Program} {w : World} {A : Around} {E : Value → Shared → Prop} {s : Shared} {xs : List Mr} {d : Addr}
theorem len_mix {Q : Value → Shared → Prop} (M : MixAt w s.heap d xs) (hd : (d == sysModules) = false) (hz : xs.length ≤ sizeLine) (h : ∀ t tk, Q (.int xs.length t) { s with toks := tk }) :
    wpAny (model prog w) A (Builtin.«len» ⟨[.ref d], []⟩) (fun fin s' => ∃ r, fin = .done (.ret r) ∧ Q r s') E s := by
  obtain ⟨o, es, ep, ho, hx, hdat, R⟩ := id M
  have hs := R.size
  have fit : ((es.size : Nat) : Int) < 2 ^ 63 := by rw [sizeLine_eq] at hz; omega
  unfold Builtin.«len»
  refine wpAny_bind (m := oneArg "len" _) (wpAny_pure ?_)
  refine wpAny_bind (m := callSpecial? (.ref d) (Str.ofString "__len__")) (wpAny_callSpecial?_slot (name := Str.ofString "__len__") M.typeIs F.slot_dict_len
    (call_len_raw hd ⟨o, ho, hx, hdat⟩ ?_))
  show wpAny _ _ _ _ _ { s with toks := s.toks + 1 }
  refine wpAny_bind (wpAny_holding (wpAny_pure ?_))
  refine wpAny_bind (wpAny_letGo ?_)
  show wpAny _ _ (if ((es.size : Nat) : Int) < 0 then _ else _) _ _ _
  rw [if_neg (by omega)]
  show wpAny _ _ (if ((es.size : Nat) : Int) ≥ 2 ^ 63 then _ else _) _ _ _
  rw [if_neg (by omega)]
  rw [hs]
  exact wpAny_bind (wpAny_mkInt (wpAny_pure ⟨_, rfl, h _ _⟩))
theorem truthy_mix {Q : Bool → Shared → Prop} (M : MixAt w s.heap d xs) (hd : (d == sysModules) = false) (hz : xs.length ≤ sizeLine) (h : ∀ tk, Q (!xs.isEmpty) { s with toks := tk }) :
    wpAny (model prog w) A (truthy (.ref d)) Q E s := by
  have hne : ((xs.length : Int) != 0) = !xs.isEmpty := by cases xs <;> simp <;> omega
  have key : wpAny (model prog w) A (runValue (.builtin "len" ⟨[.ref d], []⟩)) (fun r s' => (∃ t, r = .int xs.length t) ∧ Q (!xs.isEmpty) s') E s := by
    refine wpAny_runValue (codeAny_builtin entry_len ?_)
    rw [Around.under_plainId plain_len _]
    exact wpAny_mono (len_mix (Q := fun r s' => (∃ t, r = .int xs.length t) ∧ Q (!xs.isEmpty) s') M hd hz fun t tk => ⟨⟨t, rfl⟩, h tk⟩)
      (fun fin s' h' => by obtain ⟨r, rfl, hq⟩ := h'; exact hq) fun _ _ e => e
  unfold truthy
  first
    | refine wpAny_bind (wpAny_callSpecial?_none (name := Str.ofString "__bool__") M.typeIs noBool_dict ?_)
    | refine wpAny_bind (wpAny_pure (wpAny_bind (wpAny_callSpecial?_none (name := Str.ofString "__bool__") M.typeIs noBool_dict ?_)))
  first
    | refine wpAny_bind (wpAny_specialOf (name := Str.ofString "__len__") M.typeIs F.slot_dict_len.lookup ?_)
    | refine wpAny_bind (wpAny_pure (wpAny_bind (wpAny_specialOf (name := Str.ofString "__len__") M.typeIs F.slot_dict_len.lookup ?_)))
  first
    | exact wpAny_bind (wpAny_mono key (fun r s' h' => by obtain ⟨⟨t, rfl⟩, hq⟩ := h'; exact wpAny_pure (hne ▸ hq)) fun _ _ e => e)
    | exact wpAny_bind (wpAny_pure (wpAny_bind (wpAny_mono key (fun r s' h' => by obtain ⟨⟨t, rfl⟩, hq⟩ := h'; exact wpAny_pure (hne ▸ hq)) fun _ _ e => e)))
/-- list(view), the view of any dict's pairs -/
theorem list_view {r : Addr} {es : Array DictEntry} {ep : Nat} {Q : Value → Shared → Prop} (hh : A.handled = none) (hv : s.heap.IsItemsView r d) (hm : DT.Raw s.heap d es ep) (hn : es.size ≤ sizeLine)
    (hQ : ∀ h' tk acc c as, (∀ b o, s.heap.get? b = some o → h'.get? b = some o) → h'.get? s.heap.objs.size = some { cls := .type "list", dict := none, data := .seq acc c, slots := #[] } → as.length = es.size → DT.Made es s.heap.objs.size h' as →
      acc.toList = as.map Value.ref → Q (.ref s.heap.objs.size) { s with heap := h', toks := tk }) :
    wpAny (model prog w) A (call (.type "list") [.ref r]) Q E s := by
  refine callType_codes (Q₁ := fun obj s₁ => obj = .ref s.heap.objs.size ∧ s₁ = { s with heap := s.heap.push { cls := .type "list", data := .seq #[] } }) PySem.F.called_list (PySem.F.typeCall_list_1 _) PySem.F.entry_list_init
    (code_list_new _ ⟨rfl, rfl⟩) fun obj s₁ h₁ => ?_
  obtain ⟨rfl, rfl⟩ := h₁
  generalize hp : s.heap.push { cls := .type "list", data := .seq #[] } = h1
  have hS : h1.get? s.heap.objs.size = some { cls := .type "list", data := .seq #[] } := by rw [← hp]; exact Heap.get?_push_size _ rfl
  have up : ∀ b o, s.heap.get? b = some o → h1.get? b = some o := fun b o e => by rw [← hp]; exact Heap.get?_push_of_some _ e
  have hr : r < s.heap.objs.size := let ⟨_, ho, _⟩ := hv; Heap.lt_size ho
  have hd : d < s.heap.objs.size := hm.lt
  refine ⟨⟨_, hS, rfl⟩, PySem.F.args_list_init_2 _ _, ?_⟩
  show wpAny _ _ (do let old ← Builtin.List.listItems (.ref s.heap.objs.size); Builtin.List.listUpdate (.ref s.heap.objs.size) (fun _ => #[]); letGo old.toList.reverse; Builtin.List.listExtendWith (.ref s.heap.objs.size) (.ref r) .none) _ _ _
  refine wpAny_bind ?_
  unfold Builtin.List.listItems
  refine wpAny_bind (wpAny_seqItems (s := { s with heap := h1 }) hS rfl (wpAny_pure ?_))
  show wpAny _ _ (updateSeq s.heap.objs.size (fun _ => #[]) >>= fun _ => letGo (#[] : Array Value).toList.reverse >>= fun _ => Builtin.List.listExtendWith (.ref s.heap.objs.size) (.ref r) .none) _ _ _
  refine wpAny_bind (wpAny_updateSeq hS rfl ?_)
  have hS₂ := Heap.get?_update_self (Obj.mapSeq (fun _ => (#[] : Array Value))) hS rfl
  have oth : ∀ b o, b ≠ s.heap.objs.size → h1.get? b = some o → (h1.update s.heap.objs.size (Obj.mapSeq (fun _ => (#[] : Array Value)))).get? b = some o :=
    fun b o hb e => (Heap.get?_update_other _ _ (Ne.symm hb)).trans e
  refine wpAny_bind (wpAny_letGo ?_)
  have nr : r ≠ s.heap.objs.size := Nat.ne_of_lt hr
  have nd : d ≠ s.heap.objs.size := Nat.ne_of_lt hd
  refine DT.extI (prog := prog) (w := w) (A := A.in1) (s := { s with heap := h1.update s.heap.objs.size (Obj.mapSeq (fun _ => (#[] : Array Value))) }) (es := es) (ep := ep) hh (let ⟨o, ho, x⟩ := hv; ⟨o, oth r o nr (up _ _ ho), x⟩) (hm.at' fun o e => oth d o nd (up _ _ e)) s.heap.objs.size (Ne.symm nr) nd .none _ hS₂ (fun h' tk acc c as hk hS' hl hG hacc => ?_) hn
  exact ⟨rfl, hQ h' tk acc c as (fun b o e => hk b o (Nat.ne_of_lt (Heap.lt_size e)) (oth b o (Nat.ne_of_lt (Heap.lt_size e)) (up _ _ e))) hS' hl (hG.low (Nat.le_of_lt (Heap.lt_size hS₂))) hacc⟩
end
/-- the pairs, tracked at their addresses -/
def putP : Hp → List Addr → List Mv → Hp
  | H, a :: as, p :: ks => putP (upd H a (.tup [p.2.1, p.2.2])) as ks
  | H, _, _ => H
theorem putP_off {b : Addr} : ∀ (as : List Addr) (ks : List Mv) (H : Hp), b ∉ as → putP H as ks b = H b
  | [], _, _, _ => rfl
  | _ :: _, [], _, _ => rfl
  | a :: as, p :: ks, H, h => by
    show putP (upd H a (.tup [p.2.1, p.2.2])) as ks b = H b
    rw [putP_off as ks _ (fun z => h (List.mem_cons_of_mem _ z)), upd_ne (fun z => h (by rw [z]; exact List.mem_cons_self))]
theorem putP_at : ∀ (as : List Addr) (ks : List Mv) (H : Hp), as.length = ks.length → as.Nodup → Paired (fun (t : Addr) (p : Mv) => putP H as ks t = some (.tup [p.2.1, p.2.2])) as ks
  | [], [], _, _, _ => .nil
  | [], _ :: _, _, h, _ => by cases h
  | _ :: _, [], _, h, _ => by cases h
  | a :: as, p :: ks, H, h, hn => by
    have hn' := List.nodup_cons.mp hn
    refine .cons ?_ (putP_at as ks (upd H a (.tup [p.2.1, p.2.2])) (Nat.succ.inj h) hn'.2)
    show putP (upd H a (.tup [p.2.1, p.2.2])) as ks a = some (.tup [p.2.1, p.2.2])
    rw [putP_off as ks _ hn'.1, upd_same]
def rLenM (K : PySem.W.Frag) (w : World) : List V → Hp → VK → Prop := fun xs H Q => ∃ (d : Addr) (ks : List Mv), xs = [.ref d] ∧ Mx K H w d ks ∧ Q (.int ks.length) H
def rIsiM (K : PySem.W.Frag) (w : World) : List V → Hp → VK → Prop := fun xs H Q => ∃ (d : Addr) (ks : List Mv), xs = [.ref d, .ty "dict"] ∧ Mx K H w d ks ∧ Q (.bl true) H
def tTruM (K : PySem.W.Frag) (w : World) (ta : TE) : TT := fun σ H Q => ta σ H fun x H' => ∃ (d : Addr) (ks : List Mv), x = .ref d ∧ Mx K H' w d ks ∧ Q (!ks.isEmpty) H'
def tItemsM (K : PySem.W.Frag) (w : World) (te : TE) : TE := fun σ H Q => te σ H fun x H1 => ∃ (d : Addr) (ks : List Mv), x = .ref d ∧ Mx K H1 w d ks ∧
  ∀ (H' : Hp) (p : Addr) (ts : List Addr), (∀ b o, H1 b = some o → H' b = some o) → H1 p = none → (∀ t ∈ ts, H1 t = none) → p ∉ ts → H' p = some (.lst (ts.map V.ref)) → Paired (fun (t : Addr) (q : Mv) => H' t = some (.tup [q.2.1, q.2.2])) ts ks → Q (.ref p) H'
section
variable {X : Cx} {K : PySem.W.Frag} {w : World} {a e : Expr} {ta te : TE} {p apos cpos pos : Pos}
theorem call_lenM (hK : X.K = K := by rfl) (hw : X.w = w := by rfl) : CallR X (.builtin "len") (rLenM K w) := by
  subst hK hw
  intro pins s σ H xs us Q I r h
  obtain ⟨d, ks, rfl, m, q⟩ := h
  obtain ⟨u, rfl, rx⟩ := vals1 r
  cases rx
  obtain ⟨rows, M, hp⟩ := m.at_ I
  have lk := Paired.length hp
  refine Calls.call_function_entry kind_len plain_len entry_len (args_len1 _) (len_mix M m.sys (by rw [← lk]; exact Nat.le_of_lt (small1000 m.len)) fun t tk => ?_)
  exact ⟨.int ks.length, H, I.tok tk, ⟨t, by rw [lk]⟩, q⟩
theorem call_isiM (hK : X.K = K := by rfl) (hw : X.w = w := by rfl) : CallR X (.builtin "isinstance") (rIsiM K w) := by
  subst hK hw
  intro pins s σ H xs us Q I r h
  obtain ⟨d, ks, rfl, m, q⟩ := h
  obtain ⟨u1, u2, rfl, r1, r2⟩ := vals2 r
  cases r1
  obtain rfl : u2 = Value.type "dict" := r2
  obtain ⟨rows, ⟨o, es, ep, ho, hx, _⟩, _⟩ := m.at_ I
  exact PySem.W.kia_one (PySem.W.kitx_dict (K := X.K)) I.kIn ⟨o, ho, hx.1⟩ (kit_ty (r := true) (by decide +kernel)) (fun z => nomatch z) fun tk => ⟨.bl true, H, I.tok tk, rfl, q⟩
theorem pt_truthM (ha : PE X a ta) (he : ∀ whole, isTrue a X.env whole = (do let v ← whole; standAt a.pos; holding [v] (truthy v))) (hK : X.K = K := by rfl) (hw : X.w = w := by rfl) : PT X a (tTruM K w ta) := by
  subst hK hw
  refine ⟨fun pins s σ H Q I h => ?_⟩
  refine isTrue_plain (thn (ha.run pins s σ H _ I h) fun v s1 ⟨x, H1, I1, r1, d, ks, ex, m, q1⟩ => ?_) (he _)
  subst ex
  obtain rfl : v = Value.ref d := r1
  obtain ⟨rows, M, hp⟩ := m.at_ I1
  have lk := Paired.length hp
  refine truthy_mix M m.sys (by rw [← lk]; exact Nat.le_of_lt (small1000 m.len)) fun tk => ⟨H1, I1.tok tk, ?_⟩
  have : (!rows.isEmpty) = !ks.isEmpty := by cases hp <;> rfl
  rw [this]
  exact q1
theorem itemsM_laid {pins : List (Addr × Obj)} {σ : L2.St} {H : Hp} {s : Shared} {h' : Heap} {tk : Nat} {ks : List Mv} {rows : List Mr} {es : Array DictEntry} {acc : Array Value} {c : Nat} {as : List Addr} (I : Inv X pins σ H s) (hz : ks.length ≤ sizeLine) (kv : Paired RowR ks rows) (he : es.toList = rows.map (mEnt X.w))
    (hk : ∀ b o, s.heap.get? b = some o → h'.get? b = some o) (hS : h'.get? s.heap.objs.size = some { cls := .type "list", dict := none, data := .seq acc c, slots := #[] }) (hl : as.length = es.size) (hG : DT.Made es s.heap.objs.size h' as) (hacc : acc.toList = as.map Value.ref) :
    ∃ H' : Hp, (∀ b o, H b = some o → H' b = some o) ∧ H s.heap.objs.size = none ∧ (∀ t ∈ as, H t = none) ∧ s.heap.objs.size ∉ as ∧ H' s.heap.objs.size = some (.lst (as.map V.ref)) ∧ Paired (fun (t : Addr) (q : Mv) => H' t = some (.tup [q.2.1, q.2.2])) as ks ∧ Inv X pins σ H' { s with heap := h', toks := tk } := by
  have lk : ks.length = rows.length := Paired.length kv
  have le : es.size = rows.length := by rw [← Array.length_toList, he, List.length_map]
  have hSn : s.heap.objs.size ∉ as := fun z => Nat.lt_irrefl _ (hG.above _ z)
  have nd : as.Nodup := List.Pairwise.imp (fun {a b} (h : a < b) => Nat.ne_of_lt h) hG.rise
  have new : ∀ t ∈ as, H t = none := fun t ht => I.hok.fresh (Nat.le_of_lt (hG.above t ht))
  have newS : H s.heap.objs.size = none := I.hok.fresh (Nat.le_refl _)
  have atP := putP_at as ks (upd H s.heap.objs.size (.lst (as.map V.ref))) (by omega) nd
  have off : ∀ b, b ∉ as → b ≠ s.heap.objs.size → putP (upd H s.heap.objs.size (.lst (as.map V.ref))) as ks b = H b := fun b h1 h2 => by rw [putP_off as ks _ h1, upd_ne h2]
  have low : ∀ b o, s.heap.get? b = some o → b ∉ as ∧ b ≠ s.heap.objs.size := fun b o e => ⟨fun z => absurd (Heap.lt_size e) (Nat.not_lt.mpr (Nat.le_of_lt (hG.above b z))), Nat.ne_of_lt (Heap.lt_size e)⟩
  have kp : ∀ b u, H b = some u → (putP (upd H s.heap.objs.size (.lst (as.map V.ref))) as ks) b = some u := fun b u e => by
    rw [off b (fun z => by rw [new b z] at e; cases e) (fun z => by rw [z, newS] at e; cases e)]
    exact e
  have eS : putP (upd H s.heap.objs.size (.lst (as.map V.ref))) as ks s.heap.objs.size = some (.lst (as.map V.ref)) := by rw [putP_off as ks _ hSn, upd_same]
  refine ⟨putP (upd H s.heap.objs.size (.lst (as.map V.ref))) as ks, kp, newS, new, hSn, eS, atP, ?_⟩
  refine I.call' (ch := []) rfl ⟨fun b o q _ _ _ => hk b o q, fun b o q _ _ _ => ⟨o.slots, hk b o q⟩, fun b o q n _ => ?_, fun b o q _ => ⟨o, hk b o q⟩, fun b xs q => kp b _ q, fun b o u q => kp b _ q, fun b ps q => ⟨#[], by rw [kp b _ q]; simp⟩⟩ (fun b u q => ?_) I.bare fun b z => by simp at z
  · obtain ⟨z1, z2⟩ := low b o q
    rw [off b z1 z2]
    exact n
  · by_cases hb : b ∈ as
    · obtain ⟨j, pk, e1, e2, e3⟩ := LiI.paired_ix atP hb
      rw [e3] at q
      cases q
      obtain ⟨en, f1, f3⟩ := hG.pairs j b e1
      obtain ⟨r, g1, g0, g2, g3⟩ := LiI.paired_get kv e2
      rw [← Array.getElem?_toList, he, List.getElem?_map, g1] at f1
      obtain rfl : mEnt X.w r = en := Option.some.inj f1
      exact ⟨by show 2 ≤ sizeLine; decide, [r.2.1, r.2.2], .cons g2 (.cons g3 .nil), ⟨_, f3, rfl, _, rfl⟩⟩
    · by_cases hb2 : b = s.heap.objs.size
      · rw [hb2] at q ⊢
        rw [eS] at q
        cases q
        refine ⟨by rw [List.length_map]; omega, acc.toList, c, by rw [hacc]; exact LiI.vals_refs as, ?_⟩
        rw [Array.toArray_toList]
        exact hS
      · rw [off b hb hb2] at q
        exact (I.hok b u q).stay (fun d v _ y => hk d v y) (fun d y => kp d _ y) fun d xs y => kp d _ y
/-- list(e.items()) -/
theorem pe_listItemsM (hc : X.calm = true) (he : PE X e te) (hg : Gl X "list") (hm : X.mg "list" = none) (hv : bootBuiltins "list" = some (.type "list")) (hbase : attributeBase e "items" X.env (eval e X.env) = eval e X.env := by rfl) (hline : (apos.endLine == cpos.line) = true := by rfl)
    (hs : starEach [.Call (.Attribute e "items" apos) [] [] cpos] X.env = (false, eval (.Call (.Attribute e "items" apos) [] [] cpos) X.env) :: starEach [] X.env := by rfl) (hK : X.K = K := by rfl) (hw : X.w = w := by rfl) :
    PE X (.Call (.Name "list" p) [.Call (.Attribute e "items" apos) [] [] cpos] [] pos) (tItemsM K w te) := by
  subst hK hw
  refine ⟨fun pins s σ H Q I hq => ?_⟩
  refine wpAny_Call_Name_kw (ld_blt I hg hm hv ?_)
  refine PyProof.Rows.callWith_type1 ?_ hs rfl
  rw [hs]
  show wpAny _ _ (spliced ((false, eval (.Call (.Attribute e "items" apos) [] [] cpos) X.env) :: backTo pos (starEach [] X.env))) _ _ s
  refine Calls.spliced_cons ?_
  refine wpAny_Call_method (T := "dict") (id := "dict.items") hbase rfl hline F.plainAttrs_dict F.slot_dict_items F.type_dict_items (thn (he.run pins s σ H _ I hq) fun u s1 ⟨x, H1, I1, rx, d, ks, ex, m, q⟩ => ?_)
  subst ex
  obtain rfl : u = Value.ref d := rx
  obtain ⟨rows, M, hp⟩ := m.at_ I1
  obtain ⟨o, es, ep, ho, hx, hd, R⟩ := id M
  have I2 : Inv X pins σ H1 { s1 with heap := s1.heap.push { cls := .type "dict_items", data := .fields #[.ref d] } } := I1.kept (t' := s1.toks) fun b ob q => Heap.get?_push_of_some _ q
  have raw : DT.Raw s1.heap d es ep := ⟨o, ho, hx, hd⟩
  refine ⟨raw.typeIs, ?_, ?_⟩
  · intro b eb
    injection eb with eb
    subst eb
    exact ⟨o, ho, hx.2.1⟩
  show wpAny _ _ (callWith cpos (.builtin "dict.items") [.ref d] [] []) _ X.xe s1
  refine method_meetsIn F.slot_dict_items F.entry_dict_items rfl (PySem.evalArgs_none ⟨rfl, raw.typeIs, F.args_dict_items_1 _, _, DT.meetsItems (es := es) (ep := ep) m.sys, raw, ?_⟩)
  refine Calls.spliced_nil ?_
  have hz : es.size ≤ sizeLine := by
    rw [R.size, ← Paired.length hp]
    exact Nat.le_of_lt (small1000 m.len)
  refine list_view (es := es) (ep := ep) (I1.ok.hd hc) ⟨_, Heap.get?_push_size _ rfl, rfl, rfl⟩ (raw.push _) hz fun h' tk acc c as hk hS hl hG hacc => ?_
  obtain ⟨H', k1, k2, k3, k4, k5, k6, J⟩ := itemsM_laid (tk := tk) I2 (Nat.le_of_lt (small1000 m.len)) hp R.at_ hk hS hl hG hacc
  exact ⟨.ref _, H', J, rfl, q H' _ as k1 k2 k3 k4 k5 k6⟩
end
end L2.Vf
/-! {k: v for .. in .. if ..} with keys that are mixed. -/
namespace L2.Vf
open PySem PySem.Spec PyProof.Rows
section
variable {X : Cx}
/-- a pair is put into the dict that is being made -/
theorem m_put {pins : List (Addr × Obj)} {σ : St} {H : Hp} {s : Shared} {E : Value → Shared → Prop} {D : Addr} {ks : List Mv} {k : NestedKey} {y v : V} {u r : Value} {Q : Unit → Shared → Prop} (hu : X.A.units + 40 < cLine) (I : Inv X pins σ H s) (m : Mx X.K H X.w D ks) (ow : H D = some (mxo D X.w ks)) (hk : KyV X.K H k y) (dk : k.depth ≤ 8) (ry : RelV y u) (rv : RelV v r) (hl : ks.length < 1000)
    (h : ∀ s', Inv X pins σ (upd H D (mxo D X.w (pM ks k y v))) s' → Q () s') : wpAny (model X.prog X.w) X.A (dictSet D u r) Q E s := by
  obtain ⟨xs, M, hp⟩ := m.at_ I
  have hz : xs.length ≤ sizeLine := by
    rw [← Paired.length hp]
    exact Nat.le_of_lt (small1000 m.len)
  refine set_mix (by omega) (KyV.is I _ _ _ hk ry) dk M hz fun h' M' hs => h _ ?_
  obtain ⟨o, es, ep, ho, hx, hd, R⟩ := M'
  refine I.write (x := D) (e := D) (by rw [ow]; exact True.intro) (.inl rfl) (fun b q hb z => (hs.2 b hb).trans z) ⟨o, ho⟩ ?_
  refine ⟨⟨o, es, ep, _, ho, hx, hd, R.at_, rows_put hp k ry rv⟩, ⟨o, ho⟩, ?_⟩
  rintro h1 h2 ⟨o1, e1, p1, x1, a1, a2, a3, a4, a5⟩ st
  exact ⟨o1, e1, p1, x1, st _ a1, a2, a3, a4, a5⟩
def tDcM (K : PySem.W.Frag) (w : World) (wi : TI) (g : TG) (tt : TT) (tk tv : TE) (vs : List Nat) : TE := fun σ H Q => wi σ H fun J H1 => ∀ D, H1 D = none → (D == sysModules) = false → ∃ W : Nat → Nat → Hp → Prop, (∃ m, W 0 m (upd H1 D (mxo D w []))) ∧ ∀ i m H, W i m H →
  (J.stop i H ∧ Q (.ref D) H) ∨ (J.go i H ∧ ∃ Nx : Hp → Prop, (∀ H', Nx H' → ∃ m', m' < m ∧ W (i + 1) m' H') ∧ ∀ x H', J.yld i H x H' → g x (wipe σ vs) H' fun σ2 H2 => wipe σ2 vs = wipe σ vs ∧ tt σ2 H2 fun b H3 =>
    if b = true then tk σ2 H3 fun y H4 => tv σ2 H4 fun z H5 => ∃ (ks : List Mv) (k : NestedKey), Mx K H5 w D ks ∧ H5 D = some (mxo D w ks) ∧ KyV K H5 k y ∧ k.depth ≤ 8 ∧ ks.length < 1000 ∧ Nx (upd H5 D (mxo D w (pM ks k y z))) else Nx H3)
variable {kx vx tg iter : Expr} {ifs : List Expr} {scope : Scope} {own : List (Str × Nat)} {pos : Pos} {wi : TI} {g : TG} {tt : TT} {tk tv : TE}
theorem dcM_core {pins : List (Addr × Obj)} {s : Shared} {σ : St} {H : Hp} {Q : VK} {pos' : Pos} {use : Option (Value → Sem Unit)} {Qf : Value → Shared → Prop} (hu : X.A.units + 40 < cLine) (hc : X.calm = true) (hN : X.N.Nodup) (I : Inv X pins σ H s) (hi : PI X tg iter wi) (ok : BlkOk X.N X.env.scope scope own)
    (hg : ∀ (s : Shared) (H : Hp) (C : Addr) (cl : List (Str × Addr)) (fp : List Addr), PG (X.blk s H scope (compEnvC scope cl C X.env) fp) tg g)
    (ht : ∀ (s : Shared) (H : Hp) (C : Addr) (cl : List (Str × Addr)) (fp : List Addr), PTs (X.blk s H scope (compEnvC scope cl C X.env) fp) ifs tt)
    (hk : ∀ (s : Shared) (H : Hp) (C : Addr) (cl : List (Str × Addr)) (fp : List Addr), PE (X.blk s H scope (compEnvC scope cl C X.env) fp) kx tk)
    (he : ∀ (s : Shared) (H : Hp) (C : Addr) (cl : List (Str × Addr)) (fp : List Addr), PE (X.blk s H scope (compEnvC scope cl C X.env) fp) vx tv)
    (hs : ∀ x, foldedSetIterable iter X.env x = pure x) (h : tDcM X.K X.w wi g tt tk tv (own.map (·.2)) σ H Q)
    (hRR : ∀ D C s' m H', Inv X pins σ H' s' → Q (.ref D) H' → s'.heap.Ns C m → FpOk X pins H' C → compPost (model X.prog X.w) X.A X.xe use Qf (.ref D) C (.ok .next) s') :
    wpAny (model X.prog X.w) X.A (comprehension (.DictComp kx vx [⟨tg, iter, ifs, 0⟩] scope pos) scope X.env pos' newDict false (eval iter X.env) use) Qf X.xe s := by
  have closed : ∀ y ∈ scope.names, y.2 = .free → ∃ c, X.env.cells.lookup y.1 = some c := fun y hy e => (ok.free y hy e).elim (fun z => I.ok.has _ (.inl z)) fun z => I.ok.has _ (.inr z)
  refine wpAny_comprehension_free (use := use) rfl hs (closure_ok closed) ok.kind (fun y hy e => by rw [ok.uniq y hy, e]) (thn (hi.run pins s σ H _ I h) fun _ s1 hx => thn hx fun _ s2 h2 => ?_)
  obtain ⟨it, fp, tn, J, H2, rfl, I2, T, st2, f2, q⟩ := h2
  refine wpAny_newObj_type (newEnv_comp ?_)
  -- the dict that is new
  have nD : H2 s2.heap.objs.size = none := I2.hok.fresh (Nat.le_refl _)
  have nS : (s2.heap.objs.size == sysModules) = false := by
    rw [beq_eq_false_iff_ne]
    exact Nat.ne_of_gt I2.big
  obtain ⟨W, ⟨m0, w0⟩, turn⟩ := q _ nD nS
  have old : ∀ {b : Addr} {o : Obj}, s2.heap.get? b = some o → (s2.heap.push { cls := .type "dict", data := .dict #[] }).get? b = some o := fun e => Heap.get?_push_of_some _ e
  have I3 : Inv X pins σ (upd H2 s2.heap.objs.size (mxo s2.heap.objs.size X.w [])) { s2 with heap := s2.heap.push { cls := .type "dict", data := .dict #[] } } := I2.laid (t' := s2.toks) (fun _ _ e => old e) (Nat.le_refl _) (mxo_ok (mix_new X.w s2.heap) .nil)
  have below : ∀ b ∈ fp, b < s2.heap.objs.size := fun b hb => by
    obtain ⟨o, e, _⟩ := T.obj _ _ st2 b hb
    exact Heap.lt_size e
  generalize hD : s2.heap.objs.size = D at *
  have big1 : (s2.heap.push { cls := .type "dict", data := .dict #[] }).objs.size = D + 1 := by rw [Heap.size_push, hD]
  have f3 : ∀ b ∈ fp, FpOk X pins (upd H2 D (mxo D X.w [])) b ∧ b < (s2.heap.push { cls := .type "dict", data := .dict #[] }).objs.size := fun b hb => by
    have lt := below b hb
    have f := f2 b hb
    exact ⟨⟨by rw [upd_ne (Nat.ne_of_lt lt)]; exact f.1, f.2⟩, by rw [big1]; exact Nat.lt_succ_of_lt lt⟩
  have st3 : tn 0 (s2.heap.push { cls := .type "dict", data := .dict #[] }) := T.keep _ _ _ st2 fun b _ o e => old e
  generalize hs3 : ({ s2 with heap := s2.heap.push { cls := .type "dict", data := .dict #[] } } : Shared) = s3 at I3
  have h3 : s3.heap = s2.heap.push { cls := .type "dict", data := .dict #[] } := by rw [← hs3]
  rw [← h3] at f3 st3
  have I4 := block_start I3 ok hN f3
  have pg := hg s3 (upd H2 D (mxo D X.w [])) s3.heap.objs.size (cellsFrom (s3.heap.objs.size + 1) scope.names (cloFrom X.env.cells scope.names [])) fp
  have pt := ht s3 (upd H2 D (mxo D X.w [])) s3.heap.objs.size (cellsFrom (s3.heap.objs.size + 1) scope.names (cloFrom X.env.cells scope.names [])) fp
  have pk := hk s3 (upd H2 D (mxo D X.w [])) s3.heap.objs.size (cellsFrom (s3.heap.objs.size + 1) scope.names (cloFrom X.env.cells scope.names [])) fp
  have pe := he s3 (upd H2 D (mxo D X.w [])) s3.heap.objs.size (cellsFrom (s3.heap.objs.size + 1) scope.names (cloFrom X.env.cells scope.names [])) fp
  show codeAny _ _ (.compStart (.DictComp kx vx [⟨tg, iter, ifs, 0⟩] scope pos) 0 (.ref it) (.ref D) (compEnvC scope (cellsFrom (s3.heap.objs.size + 1) scope.names (cloFrom X.env.cells scope.names [])) s3.heap.objs.size X.env))
    (compPost (model X.prog X.w) X.A X.xe use Qf (.ref D) s3.heap.objs.size) { s3 with heap := pushCells (s3.heap.push { cls := .type "dict", data := .dict #[] }) scope.names }
  have st4 : tn 0 ({ s3 with heap := pushCells (s3.heap.push { cls := .type "dict", data := .dict #[] }) scope.names } : Shared).heap := T.keep _ _ _ st3 fun b _ o e => pushCells_keeps _ _ _ _ (Heap.get?_push_of_some _ e)
  have free0 : ∀ b ∈ fp, (upd H2 D (mxo D X.w [])) b = none := fun b hb => (f3 b hb).1.1
  generalize hce : compEnvC scope (cellsFrom (s3.heap.objs.size + 1) scope.names (cloFrom X.env.cells scope.names [])) s3.heap.objs.size X.env = ce at I4 pg pt pk pe ⊢
  have lo : ce.locals = s3.heap.objs.size := by rw [← hce]; rfl
  generalize upd H2 D (mxo D X.w []) = H3 at I3 I4 pg pt pk pe w0 free0 f3
  generalize ({ s3 with heap := pushCells (s3.heap.push { cls := .type "dict", data := .dict #[] }) scope.names } : Shared) = s4 at I4 st4 ⊢
  have fps : ∀ {σ' : St} {H' : Hp} {s' : Shared}, Inv (X.blk s3 H3 scope ce fp) [] σ' H' s' → (∀ b ∈ fp, H' b = none) → ∀ b ∈ fp, FpOk (X.blk s3 H3 scope ce fp) [] H' b := fun I' n b hb =>
    ⟨n b hb, (I'.ok.exf b hb).1, I'.ok.exfs b hb, .inl hb, fun x c e => (I'.ok.exf b hb).2 x c e, fun p hp => by cases hp⟩
  have loop : codeAny (model X.prog X.w) X.A (.compLoop (.DictComp kx vx [⟨tg, iter, ifs, 0⟩] scope pos) 0 (.ref it) (.ref D) ce) (compPost (model X.prog X.w) X.A X.xe use Qf (.ref D) s3.heap.objs.size) s4 := by
    refine compLoop_anyD (fun n s' => ∃ i H', Inv (X.blk s3 H3 scope ce fp) [] (wipe σ (own.map (·.2))) H' s' ∧ tn i s'.heap ∧ (∀ b ∈ fp, H' b = none) ∧ W i n H') ?_ m0 ⟨0, H3, I4, st4, free0, w0⟩
    rintro n s5 ⟨i, H5, I5, st5, n5, w5⟩
    rcases turn i n H5 w5 with ⟨stop, qq⟩ | ⟨go, Nx, less, step⟩
    · refine thnF (T.done (X.blk s3 H3 scope ce fp) rfl rfl rfl hc i [] s5 _ H5 (fun _ _ => False) I5 (fps I5 n5) st5 stop) fun r s6 ⟨hr, I6⟩ => ?_
      subst hr
      have out : Inv X pins σ H5 s6 := I3.call' (ch := fp) I6.os I6.base I6.hok I6.bare fun b hb => ⟨(f3 b hb).1.2.2.2.1, (f3 b hb).1.2.1, (f3 b hb).1.2.2.2.2.1, (f3 b hb).1.2.2.2.2.2⟩
      have nL : H5 s3.heap.objs.size = none := by
        rw [← lo]
        exact I6.free
      obtain ⟨m, hn, _⟩ := I6.loc
      have hn' : s6.heap.Ns ce.locals m := hn
      rw [lo] at hn'
      exact hRR _ _ s6 m H5 out qq hn' (I3.fpOk (Nat.le_refl _) nL)
    · refine thnF (T.item (X.blk s3 H3 scope ce fp) rfl rfl rfl hc i [] s5 _ H5 (fun _ _ => False) I5 (fps I5 n5) st5 go) fun r s6 ⟨u, hr, h6⟩ => ?_
      subst hr
      refine thnF h6 fun _ s7 ⟨x, H7, I7, r7, y7, st7, n7⟩ => ?_
      refine thnF (pg.run _ s7 _ H7 x u _ (I7.pinned (fps I7 n7) (T.obj _ _ st7)) r7 (step x H7 y7)) fun _ s8 ⟨σ8, H8, I8, hw8, q8⟩ => ?_
      refine thnF (pt.run _ s8 σ8 H8 _ I8 q8) fun b s9 ⟨H9, I9, q9⟩ => ?_
      have ends : ∀ {s' : Shared} {H' : Hp}, Inv (X.blk s3 H3 scope ce fp) ([] ++ pinsAt fp s7.heap) σ8 H' s' → Nx H' → ∃ m, m < n ∧ ∃ i H', Inv (X.blk s3 H3 scope ce fp) [] (wipe σ (own.map (·.2))) H' s' ∧ tn i s'.heap ∧ (∀ b ∈ fp, H' b = none) ∧ W i m H' := fun {s' H'} I' nx => by
        obtain ⟨m', lt, w'⟩ := less H' nx
        have pinned : ∀ b ∈ fp, ∀ o, s7.heap.get? b = some o → s'.heap.get? b = some o ∧ H' b = none := fun b hb o e =>
          have z := I'.pin (b, o) (List.mem_append_right _ (List.mem_append_right _ (mem_pinsAt hb e)))
          ⟨z.1, z.2.1⟩
        refine ⟨m', lt, i + 1, H', (I'.unpinned (pins := [])).weak (by rw [← hw8, wipe_length]) (fun j v e => ?_), T.keep _ _ _ st7 fun b hb o e => (pinned b hb o e).1, fun b hb => ?_, w'⟩
        · rw [← hw8] at e
          exact (wipe_some e).1
        · obtain ⟨o, e, _⟩ := T.obj _ _ st7 b hb
          exact (pinned b hb o e).2
      cases b with
      | false =>
        rw [if_neg Bool.false_ne_true] at q9 ⊢
        exact ends I9 q9
      | true =>
        rw [if_pos rfl] at q9 ⊢
        refine thnF (pk.run _ s9 σ8 H9 _ I9 q9) fun z s10 ⟨yk, H10, I10, r10, q10⟩ => ?_
        refine thnF (pe.run _ s10 σ8 H10 _ I10 q10) fun z2 s11 ⟨yv, H11, I11, r11, ks, k, mm, ow, kk, kd, kl, nx⟩ => ?_
        exact m_put (X := X.blk s3 H3 scope ce fp) hu I11 mm ow kk kd r10 r11 kl fun s12 I12 => ends I12 nx
  exact codeAny_compStart_dict loop (T.self X.A 0 _ _ _ st4 loop)
theorem pe_dcM {K : PySem.W.Frag} {w : World} (hu : X.A.units + 40 < cLine) (hc : X.calm = true) (hN : X.N.Nodup) (hi : PI X tg iter wi) (ok : BlkOk X.N X.env.scope scope own)
    (hg : ∀ (s : Shared) (H : Hp) (C : Addr) (cl : List (Str × Addr)) (fp : List Addr), PG (X.blk s H scope (compEnvC scope cl C X.env) fp) tg g)
    (ht : ∀ (s : Shared) (H : Hp) (C : Addr) (cl : List (Str × Addr)) (fp : List Addr), PTs (X.blk s H scope (compEnvC scope cl C X.env) fp) ifs tt)
    (hk : ∀ (s : Shared) (H : Hp) (C : Addr) (cl : List (Str × Addr)) (fp : List Addr), PE (X.blk s H scope (compEnvC scope cl C X.env) fp) kx tk)
    (he : ∀ (s : Shared) (H : Hp) (C : Addr) (cl : List (Str × Addr)) (fp : List Addr), PE (X.blk s H scope (compEnvC scope cl C X.env) fp) vx tv)
    (hs : ∀ x, foldedSetIterable iter X.env x = pure x := by intro _; rfl) (hK : X.K = K := by rfl) (hw : X.w = w := by rfl) : PE X (.DictComp kx vx [⟨tg, iter, ifs, 0⟩] scope pos) (tDcM K w wi g tt tk tv (own.map (·.2))) := by
  subst hK hw
  refine ⟨fun pins s σ H Q I h => ?_⟩
  rw [arm_eval_DictComp]
  refine dcM_core hu hc hN I hi ok hg ht hk he hs h fun D C s' m H' I' q hn f => ⟨m, hn, fun h'' sb => ?_⟩
  obtain ⟨f0, f1, f2, f3, f4, f5⟩ := f
  exact ⟨.ref D, H', I'.turned (t' := s'.toks) (fun b o hb e => (sb.2 b hb).trans e) f0 f1 f3 f4 f5, rfl, q⟩
/-- put into a name of the block's own def at once -/
theorem ps_setDcM {K : PySem.W.Frag} {w : World} {i : Nat} {y : Str} {py spos : Pos} (hu : X.A.units + 40 < cLine) (hc : X.calm = true) (hN : X.N.Nodup) (hy : X.N[i]? = some y) (hyl : X.env.scope.names.lookup y = some .local)
    (hsw : swapsWith (.DictComp kx vx [⟨tg, iter, ifs, 0⟩] scope pos) (some (.Name y py)) spos.line X.env = pure true) (hi : PI X tg iter wi) (ok : BlkOk X.N X.env.scope scope own)
    (hg : ∀ (s : Shared) (H : Hp) (C : Addr) (cl : List (Str × Addr)) (fp : List Addr), PG (X.blk s H scope (compEnvC scope cl C X.env) fp) tg g)
    (ht : ∀ (s : Shared) (H : Hp) (C : Addr) (cl : List (Str × Addr)) (fp : List Addr), PTs (X.blk s H scope (compEnvC scope cl C X.env) fp) ifs tt)
    (hk : ∀ (s : Shared) (H : Hp) (C : Addr) (cl : List (Str × Addr)) (fp : List Addr), PE (X.blk s H scope (compEnvC scope cl C X.env) fp) kx tk)
    (he : ∀ (s : Shared) (H : Hp) (C : Addr) (cl : List (Str × Addr)) (fp : List Addr), PE (X.blk s H scope (compEnvC scope cl C X.env) fp) vx tv)
    (hs : ∀ x, foldedSetIterable iter X.env x = pure x := by intro _; rfl) (hK : X.K = K := by rfl) (hw : X.w = w := by rfl) :
    PS X (.Assign [.Name y py] (.DictComp kx vx [⟨tg, iter, ifs, 0⟩] scope pos) spos) (tAsg (tDcM K w wi g tt tk tv (own.map (·.2))) (gName i)) := by
  subst hK hw
  refine ⟨fun pins s σ H D I h => ?_⟩
  rw [exec_Assign_Name_used _ _ _ _ hsw]
  refine wpAny_bind (wpAny_standAt (wpAny_bind ?_))
  show wpAny _ X.A (do let _ ← comprehension (.DictComp kx vx [⟨tg, iter, ifs, 0⟩] scope pos) scope X.env (firstIterPos [⟨tg, iter, ifs, 0⟩] pos) newDict false (eval iter X.env) (some (assign (.Name y py) X.env))) _ _ s
  have h : tDcM X.K X.w wi g tt tk tv (own.map (·.2)) σ H (fun x H1 => gName i x σ H1 D.nx) := h
  refine wpAny_bind (thn (dcM_core (Qf := fun _ s' => SP X pins D .next s') hu hc hN I hi ok hg ht hk he hs h fun L C s' m H' I' q hn f => ?_) fun _ s' hq => wpAny_pure (wpAny_pure hq))
  show wpAny _ _ (assign (.Name y py) X.env (.ref L)) _ _ _
  refine wpAny_assign_Name (store_ok2 (v := V.ref L) I' hN hy (.inl hyl) rfl (fun s2 I2 ⟨a, sb, ha⟩ => ?_) (.inr hyl))
  obtain ⟨f0, f1, f2, f3, f4, f5⟩ := f
  have haC : C ≠ a := by
    rcases ha with z | z
    · rw [z]
      exact f1
    · exact fun e => f4 y a z e.symm
  refine ⟨m, hn.sameBut sb haC, fun h3 sb3 => ?_⟩
  exact ⟨_, H', I2.turned (t' := s2.toks) (fun b o hb e => (sb3.2 b hb).trans e) f0 f1 f3 f4 f5, q⟩
theorem sw_trueD {ke ve : Expr} {gs : List Comprehension} {scope : Scope} {pos py : Pos} {y : Str} {l : Nat} {env : Env} (hk : env.scope.kind = .function) (hy : env.scope.names.lookup y = some .local) (hl : (py.line == pos.line) = true)
    (ha : (scope.names.any fun (n, k) => n == y && (k == .local || k == .cell)) = false) : swapsWith (.DictComp ke ve gs scope pos) (some (.Name y py)) l env = pure true := by
  have ky : env.kindOf y = some .local := hy
  have hb : env.blockKind = .function := by unfold Env.blockKind; rw [hk]; rfl
  unfold swapsWith
  simp only [hb, ky, ha, Expr.pos, hl]
  rfl
/-- over a list that stays -/
theorem dcM_list {K : PySem.W.Frag} {w : World} {a : Addr} {xs : List V} {vs : List Nat} {σ : St} {H1 : Hp} {D : Addr} {Qd : Hp → Prop} (Pv : Nat → Hp → Prop) (h0 : Pv 0 (upd H1 D (mxo D w []))) (hl : ∀ i H, i ≤ xs.length → Pv i H → SqL K H a xs)
    (hs : ∀ i x H, xs[i]? = some x → Pv i H → g x (wipe σ vs) H fun σ2 H2 => wipe σ2 vs = wipe σ vs ∧ tt σ2 H2 fun b H3 =>
      if b = true then tk σ2 H3 fun y H4 => tv σ2 H4 fun z H5 => ∃ (ks : List Mv) (k : NestedKey), Mx K H5 w D ks ∧ H5 D = some (mxo D w ks) ∧ KyV K H5 k y ∧ k.depth ≤ 8 ∧ ks.length < 1000 ∧ Pv (i + 1) (upd H5 D (mxo D w (pM ks k y z))) else Pv (i + 1) H3) (hd : ∀ H, Pv xs.length H → Qd H) :
    ∃ W : Nat → Nat → Hp → Prop, (∃ m, W 0 m (upd H1 D (mxo D w []))) ∧ ∀ i m H, W i m H →
      ((Itl K a).stop i H ∧ Qd H) ∨ ((Itl K a).go i H ∧ ∃ Nx : Hp → Prop, (∀ H', Nx H' → ∃ m', m' < m ∧ W (i + 1) m' H') ∧ ∀ x H', (Itl K a).yld i H x H' → g x (wipe σ vs) H' fun σ2 H2 => wipe σ2 vs = wipe σ vs ∧ tt σ2 H2 fun b H3 =>
        if b = true then tk σ2 H3 fun y H4 => tv σ2 H4 fun z H5 => ∃ (ks : List Mv) (k : NestedKey), Mx K H5 w D ks ∧ H5 D = some (mxo D w ks) ∧ KyV K H5 k y ∧ k.depth ≤ 8 ∧ ks.length < 1000 ∧ Nx (upd H5 D (mxo D w (pM ks k y z))) else Nx H3) := by
  refine ⟨fun i m H => m = xs.length - i ∧ i ≤ xs.length ∧ Pv i H, ⟨xs.length, by simp, Nat.zero_le _, h0⟩, ?_⟩
  rintro i m H ⟨rfl, le, p⟩
  have q := hl i H le p
  rcases Nat.lt_or_ge i xs.length with lt | ge
  · refine .inr ⟨⟨xs, xs[i], q, by simp [lt]⟩, Pv (i + 1), fun H' p' => ⟨xs.length - (i + 1), by omega, rfl, lt, p'⟩, fun x H' y => ?_⟩
    obtain ⟨rfl, y⟩ := y
    exact hs i x _ (y xs q) p
  · obtain rfl : i = xs.length := by omega
    exact .inl ⟨⟨xs, q, Nat.le_refl _⟩, hd H p⟩
end
end L2.Vf
/-! all([..]) where each is true. -/
namespace L2.Vf
open PySem PySem.Spec PyProof.Rows
open Evl (Ex Ev EvT EvL EvA)
section
variable {X : Cx} {K : PySem.W.Frag}
theorem cr_allK (hc : X.calm = true) (hK : X.K = K := by rfl) : CallR X (.builtin "all") (rAll K) := by
  subst hK
  exact cr_all hc
theorem call_isiTK (hK : X.K = K := by rfl) : CallR X (.builtin "isinstance") (rIsiT K) := by
  subst hK
  exact call_isiT
end
/-- a comprehension that gives one truth after another, nothing written -/
theorem lc_true {J : It} {n : Nat} {G : Hp → Prop} {Z : Nat → V → Prop} (wk : Walk J n G (fun i H x H' => H' = H ∧ Z i x)) {g : TG} {tt : TT} {te : TE} {vs : List Nat} {σ : St} {H : Hp} {D : Addr} {Qd : Hp → Prop} (nD : H D = none) (hn : n ≤ 1000)
    (hG : ∀ H', Ex H H' → G H')
    (hs : ∀ i x H', i < n → Ex H H' → Z i x → ∀ (N : VK) (M : Hp → Prop), (∀ H4, Ex H' H4 → N (.bl true) H4) → g x (wipe σ vs) H' fun σ2 H2 => wipe σ2 vs = wipe σ vs ∧ tt σ2 H2 fun b H3 => if b = true then te σ2 H3 N else M H3)
    (hd : ∀ H', Ex H H' → H' D = some (.lst ((List.replicate n true).map V.bl)) → Qd H') :
    ∃ W : Nat → Nat → Hp → Prop, (∃ m, W 0 m (upd H D (.lst []))) ∧ ∀ i m H, W i m H →
      (J.stop i H ∧ Qd H) ∨ (J.go i H ∧ ∃ Nx : Hp → Prop, (∀ H', Nx H' → ∃ m', m' < m ∧ W (i + 1) m' H') ∧ ∀ x H', J.yld i H x H' → g x (wipe σ vs) H' fun σ2 H2 => wipe σ2 vs = wipe σ vs ∧ tt σ2 H2 fun b H3 =>
        if b = true then te σ2 H3 fun y H4 => ∃ acc, H4 D = some (.lst acc) ∧ acc.length < sizeLine ∧ Nx (upd H4 D (.lst (acc ++ [y]))) else Nx H3) := by
  have re : ∀ i, (List.replicate (i + 1) true).map V.bl = (List.replicate i true).map V.bl ++ [V.bl true] := fun i => by rw [List.replicate_succ', List.map_append]; rfl
  refine lc_it wk (fun i H' => Ex H H' ∧ H' D = some (.lst ((List.replicate i true).map V.bl))) ⟨Ex.new nD, upd_same⟩ (fun i H' _ h => hG H' h.1) ?_ fun H' h => hd H' h.1 h.2
  rintro i x H1 H2 hi ⟨e1, h1⟩ ⟨rfl, z⟩
  refine hs i x _ hi e1 z _ _ fun H4 e4 => ⟨_, e4 _ _ h1, small1000 (by rw [List.length_map, List.length_replicate]; omega), ?_, by rw [upd_same, re]⟩
  intro b o hb
  rw [upd_ne (ne_of_none hb nD)]
  exact e4 _ _ (e1 _ _ hb)
/-- a dict comprehension over a list that stays, nothing else written: Iv by the turn and the rows so far -/
theorem dcM_iv {K : PySem.W.Frag} {w : World} {a : Addr} {xs : List V} {g : TG} {tt : TT} {tk tv : TE} {vs : List Nat} {σ : St} {H : Hp} {D : Addr} {Qd : Hp → Prop} (Iv : Nat → List Mv → Prop) (nD : H D = none) (sD : (D == sysModules) = false) (hl : SqL K H a xs) (hn : xs.length ≤ 900) (h0 : Iv 0 [])
    (hs : ∀ i x H' ks, xs[i]? = some x → Ex H H' → Iv i ks → ∀ (N : V → V → Hp → Prop) (M : Hp → Prop), (∀ k y z H5, Ex H' H5 → KyV K H5 k y → k.depth ≤ 8 → Iv (i + 1) (pM ks k y z) → N y z H5) → (∀ H5, Ex H' H5 → Iv (i + 1) ks → M H5) →
      g x (wipe σ vs) H' fun σ2 H2 => wipe σ2 vs = wipe σ vs ∧ tt σ2 H2 fun b H3 => if b = true then tk σ2 H3 fun y H4 => tv σ2 H4 fun z H5 => N y z H5 else M H3)
    (hd : ∀ H' ks, Ex H H' → Mx K H' w D ks → H' D = some (mxo D w ks) → Iv xs.length ks → ks.length ≤ xs.length → Qd H') :
    ∃ W : Nat → Nat → Hp → Prop, (∃ m, W 0 m (upd H D (mxo D w []))) ∧ ∀ i m H, W i m H →
      ((Itl K a).stop i H ∧ Qd H) ∨ ((Itl K a).go i H ∧ ∃ Nx : Hp → Prop, (∀ H', Nx H' → ∃ m', m' < m ∧ W (i + 1) m' H') ∧ ∀ x H', (Itl K a).yld i H x H' → g x (wipe σ vs) H' fun σ2 H2 => wipe σ2 vs = wipe σ vs ∧ tt σ2 H2 fun b H3 =>
        if b = true then tk σ2 H3 fun y H4 => tv σ2 H4 fun z H5 => ∃ (ks : List Mv) (k : NestedKey), Mx K H5 w D ks ∧ H5 D = some (mxo D w ks) ∧ KyV K H5 k y ∧ k.depth ≤ 8 ∧ ks.length < 1000 ∧ Nx (upd H5 D (mxo D w (pM ks k y z))) else Nx H3) := by
  refine dcM_list (xs := xs) (fun i H' => ∃ ks, Ex H H' ∧ Mx K H' w D ks ∧ H' D = some (mxo D w ks) ∧ Iv i ks ∧ ks.length ≤ i) ⟨[], Ex.new nD, Mx.new sD, upd_same, h0, Nat.le_refl _⟩ (fun i H' _ h => ?_) ?_ fun H' h => ?_
  · obtain ⟨ks, e, _⟩ := h
    exact Evl.ex_l e hl
  · rintro i x H1 hx ⟨ks, e1, m1, o1, iv, le⟩
    have lt := (List.getElem?_eq_some_iff.mp hx).1
    refine hs i x H1 ks hx e1 iv _ _ (fun k y z H5 e5 hk dk iv' => ?_) fun H5 e5 iv' => ⟨ks, Ex.trans e1 e5, m1.mono e5, e5 _ _ o1, iv', Nat.le_succ_of_le le⟩
    refine ⟨ks, k, m1.mono e5, e5 _ _ o1, hk, dk, by omega, pM ks k y z, ?_, (m1.mono e5).put (e5 _ _ o1) hk dk (by omega), upd_same, iv', Nat.le_trans pM_len (by omega)⟩
    intro b o hb
    rw [upd_ne (ne_of_none hb nD)]
    exact e5 _ _ (e1 _ _ hb)
  · obtain ⟨ks, e1, m1, o1, iv, le⟩ := h
    exact hd H' ks e1 m1 o1 iv le
theorem vM_some {ks : List Mv} {k : NestedKey} : (vM ks k).isSome = true ↔ k ∈ ks.map (·.1) := by
  constructor
  · intro h
    unfold vM at h
    rw [Option.isSome_map, List.find?_isSome] at h
    obtain ⟨p, hp, e⟩ := h
    exact List.mem_map.mpr ⟨p, hp, of_decide_eq_true e⟩
  · intro h
    rcases hv : (vM ks k).isSome with _ | _
    · exact absurd h (vM_none (by rw [hv]; simp))
    · rfl
theorem pM_new {ks : List Mv} {k : NestedKey} {kv y : V} (h : k ∉ ks.map (·.1)) : pM ks k kv y = ks ++ [(k, kv, y)] := by
  unfold pM
  rw [if_neg (fun z => h (vM_some.mp z))]
theorem vM_at {mv : List Mv} (n : (mv.map (·.1)).Nodup) {j : Nat} {r : Mv} (h : mv[j]? = some r) : vM mv r.1 = some r.2.2 := by
  induction mv generalizing j with
  | nil => simp at h
  | cons x mv ih =>
    rw [List.map_cons, List.nodup_cons] at n
    unfold vM
    rw [List.find?_cons]
    cases j with
    | zero =>
      obtain rfl : x = r := Option.some.inj h
      rw [decide_eq_true rfl]
      rfl
    | succ j =>
      have hj : mv[j]? = some r := by simpa using h
      have ne : x.1 ≠ r.1 := fun z => n.1 (by rw [z]; exact List.mem_map.mpr ⟨r, List.mem_of_getElem? hj, rfl⟩)
      rw [decide_eq_false ne]
      exact ih n.2 hj
theorem lst_ty {K : PySem.W.Frag} {H : Hp} {a : Addr} {xs : List V} (h : SqL K H a xs) : TyX K H (.ref a) (.type "list") := by
  rcases h with (h | ⟨o, h⟩) | ⟨o, its, n, h1, h2, _⟩
  · exact .base (.lst h)
  · exact .base (.frz h)
  · exact .kList h1 h2
theorem all_rep : ∀ n : Nat, (List.replicate n true).all id = true
  | 0 => rfl
  | n + 1 => by
    rw [List.replicate_succ, List.all_cons, all_rep n]
    rfl
end L2.Vf
/-! Dicts of mixed keys: made of a tuple of pairs. -/
namespace L2.Vf
open PySem PySem.Spec PyProof.Rows
open Evl (Ex Ev EvT EvL EvA)
section
variable {prog : Program} {w : World} {A : Around} {E : Value → Shared → Prop}
theorem miss_tupK {s : Shared} {a : Addr} {o : Obj} {xs : Array Value} {k : Nat} {Q : Option Value → Shared → Prop} (ho : s.heap.get? a = some o) (hc : o.cls = .type "tuple") (hx : o.data = .seq xs k) (hd : o.dict = none) (hh : A.handled = none)
    (h : ∀ h' tk, (∀ b ob, s.heap.get? b = some ob → h'.get? b = some ob) → Q none { s with heap := h', toks := tk }) : wpAny (model prog w) A (getAttr? (.ref a) "keys") Q E s :=
  getAttrOr_miss_tuple ho hc hx hd tuple_no_keys (by decide +kernel) hh h
theorem upd_mixT {R : Result → Shared → Prop} {S I l : Addr} {items : Array Value} {res : Value} (hu : A.units + 40 < cLine) (hh : A.handled = none) (hlI : l ≠ I) (hSI : S ≠ I) (hSl : S ≠ l) :
    ∀ (rest : List Mr) (i : Nat) (acc : List Mr) (ix : Int) (t : Tok) (s : Shared), items.size = i + rest.length → acc.length + rest.length ≤ sizeLine → (∀ (j : Nat) (r : Mr), rest[j]? = some r → PairAt s.heap S I items[i + j]? r) →
      s.heap.IsTupleIter I l i → s.heap.IsTuple l items → MixAt w s.heap S acc →
      (∀ h' tk, MixAt w h' S (mPuts acc rest) → (∀ b o, b ≠ S → b ≠ I → s.heap.get? b = some o → h'.get? b = some o) → R (.ok (.ret res)) { s with heap := h', toks := tk }) →
      codeAny (model prog w) A (.builtin "dict.update.loop" ⟨[.ref S, .ref I, .int ix t, res], []⟩) R s
  | [], i, acc, ix, t, s, hsz, hln, ht, hit, hl, M, hR => by
    refine codeAny_builtin ud_entry ?_
    rw [Around.under_plainId ud_plain _]
    show wpAny _ A.in1 (pyNext (.ref I) >>= _) _ _ s
    have hI : ∃ oi, s.heap.get? I = some oi ∧ ∀ vs n, oi.data ≠ .seq vs n := by
      obtain ⟨oi, h1, _, h2⟩ := hit
      exact ⟨oi, h1, fun vs n z => by rw [h2] at z; cases z⟩
    refine wpAny_bind (wpAny_pyNext_tuple_end (A := A.in1) hh hit hl (Array.getElem?_eq_none (Nat.le_of_eq hsz)) fun h' he => ?_)
    show wpAny _ A.in1 (Builtin.Dict.addKeywords S [] >>= _) _ _ _
    refine wpAny_bind (wpAny_pure (wpAny_pure ?_))
    exact hR h' s.toks (M.ext hI (fun b o hb e => he b o hb e) hSI) fun b o _ hb e => he b o hb e
  | r :: rest, i, acc, ix, t, s, hsz, hln, ht, hit, hl, M, hR => by
    obtain ⟨b, hb, hbS, hbI, htup, hk, dk⟩ := ht 0 r rfl
    rw [List.length_cons] at hsz hln
    have hI : ∃ oi, s.heap.get? I = some oi ∧ ∀ vs n, oi.data ≠ .seq vs n := by
      obtain ⟨oi, h1, _, h2⟩ := hit
      exact ⟨oi, h1, fun vs n z => by rw [h2] at z; cases z⟩
    refine codeAny_builtin ud_entry ?_
    rw [Around.under_plainId ud_plain _]
    show wpAny _ A.in1 (pyNext (.ref I) >>= _) _ _ s
    refine wpAny_bind (wpAny_pyNext_tuple_item (x := .ref b) hit hl (by simpa using hb) fun h1 hit1 hs1 => ?_)
    have k1 : ∀ c q, c ≠ I → s.heap.get? c = some q → h1.get? c = some q := fun c q hc e => hs1.extBut c q hc e
    have ht1 : IsTup h1 b #[r.2.1, r.2.2] := htup.extBut hs1.extBut hbI
    have hl1 : h1.IsTuple l items := hl.extBut hs1.extBut hlI
    have M1 := M.ext hI k1 hSI
    have hk1 := NestedIs.ext hI k1 hk
    obtain ⟨o, ho, hc, n, hd⟩ := id ht1
    show wpAny _ A.in1 (holding [Value.ref b] _ >>= _) _ _ _
    refine wpAny_bind (wpAny_holding ?_)
    refine wpAny_bind (wpAny_tryCatch ?_)
    unfold Builtin.Dict.pairItems
    refine wpAny_bind (wpAny_typeOf (T := "tuple") ⟨o, ho, hc⟩ ?_)
    rw [if_pos (by first | decide | rfl | simp)]
    refine wpAny_bind (wpAny_seqItems ho hd (wpAny_pure ?_))
    show wpAny _ A.in1 (holding [r.2.1, r.2.2] (dictSet S r.2.1 r.2.2)) _ _ _
    refine wpAny_holding (set_mix (s := { s with heap := h1 }) (by show A.units + 1 + 16 < _; omega) hk1 dk M1 (by omega) fun h2 M2 hs2 => ?_)
    have le := mPut_len acc r.1 r.2.1 r.2.2
    obtain ⟨oS, eS, pS, hoS, _, hdS, _⟩ := id M1
    have hS : ∃ oi, h1.get? S = some oi ∧ ∀ vs n, oi.data ≠ .seq vs n := ⟨oS, hoS, fun vs n z => by rw [hdS] at z; cases z⟩
    have k2 : ∀ c q, c ≠ S → h1.get? c = some q → h2.get? c = some q := fun c q hc e => (hs2.2 c hc).trans e
    refine wpAny_pure ⟨plainId_quiet ud_plain _, upd_mixT (items := items) hu hh hlI hSI hSl rest (i + 1) (mPut acc r.1 r.2.1 r.2.2) (ix + 1) 0 _ (show items.size = i + 1 + rest.length by omega) (by omega) (fun j q e => ?_) ?_ ?_ M2 fun h' tk M' k => ?_⟩
    · obtain ⟨b', hb', hbS', hbI', htup', hk', dk'⟩ := ht (j + 1) q (by simpa using e)
      refine ⟨b', ?_, hbS', hbI', (htup'.extBut hs1.extBut hbI').extBut hs2.extBut hbS', NestedIs.ext hS k2 (NestedIs.ext hI k1 hk'), dk'⟩
      rw [show i + 1 + j = i + (j + 1) by omega]
      exact hb'
    · exact hit1.at fun o' e => hs2.extBut I o' (Ne.symm hSI) e
    · exact hl1.extBut hs2.extBut (Ne.symm hSl)
    · exact hR h' tk M' fun c oc h3 h4 e => k c oc h3 h4 (hs2.extBut c oc h3 (hs1.extBut c oc h4 e))
/-- dict(l) of a list of pairs -/
theorem dict_pairs_mixT {s : Shared} {l : Addr} {ol : Obj} {items : Array Value} {n : Nat} {rows : List Mr} {Q : Value → Shared → Prop} (hu : A.units + 60 < cLine) (hh : A.handled = none) (hl : s.heap.get? l = some ol) (hc : ol.cls = .type "tuple") (hd : ol.dict = none)
    (hdat : ol.data = .seq items n) (hsz : items.size = rows.length) (hln : rows.length ≤ sizeLine)
    (ht : ∀ (j : Nat) (r : Mr), rows[j]? = some r → ∃ b : Addr, items[j]? = some (.ref b) ∧ IsTup s.heap b #[r.2.1, r.2.2] ∧ NestedIs s.heap r.1 r.2.1 ∧ r.1.depth ≤ 8)
    (h : ∀ h' tk, MixAt w h' s.heap.objs.size (mPuts [] rows) → (∀ b o, s.heap.get? b = some o → h'.get? b = some o) → Q (.ref s.heap.objs.size) { s with heap := h', toks := tk }) :
    wpAny (model prog w) A (call (.type "dict") [.ref l]) Q E s := by
  refine callType_codes (Q₁ := fun obj s₁ => obj = .ref s.heap.objs.size ∧ s₁ = { s with heap := s.heap.push { cls := .type "dict", data := .dict #[] } }) PySem.F.kt_called_dict (PySem.F.kt_typeCall_dict_1 _) PySem.F.entry_dict_init (kt_code_dict_new _ ⟨rfl, rfl⟩) ?_
  rintro obj s₁ ⟨rfl, rfl⟩
  have M0 := mix_new w s.heap
  have k0 : ∀ b o, s.heap.get? b = some o → (s.heap.push { cls := .type "dict", data := .dict #[] }).get? b = some o := fun b o e => Heap.get?_push_of_some _ e
  have hT : ({ s with heap := s.heap.push { cls := .type "dict", data := .dict #[] } } : Shared).TypeIs (.ref s.heap.objs.size) "dict" := MixAt.typeIs (s := { s with heap := s.heap.push { cls := .type "dict", data := .dict #[] } }) M0
  refine ⟨hT, PySem.F.args_dict_init_2 _ _, ?_⟩
  unfold Builtin.«dict.__init__»
  refine wpAny_bind ?_
  unfold Builtin.Dict.selfAndRest
  refine wpAny_bind (wpAny_notOrdered_dict hT ?_)
  show wpAny _ _ (pure (s.heap.objs.size, [Value.ref l])) _ _ _
  refine wpAny_pure ?_
  show wpAny _ _ (Builtin.Dict.updateFrom "dict.__init__" s.heap.objs.size (.ref l) [] .none) _ _ _
  unfold Builtin.Dict.updateFrom
  refine wpAny_bind (wpAny_typeOf (T := "tuple") ⟨ol, k0 _ _ hl, hc⟩ ?_)
  rw [if_pos (by first | decide | rfl | simp)]
  refine wpAny_bind (miss_tupK (k0 _ _ hl) hc hdat hd hh fun h1 tk1 hk1 => ?_)
  rw [if_pos (show (none : Option Value).isNone = true from rfl)]
  refine wpAny_bind (wpAny_rule ?_)
  have hl1 : h1.IsTuple l items := ⟨ol, hk1 _ _ (k0 _ _ hl), hc, n, hdat⟩
  have hS1 : s.heap.objs.size < h1.objs.size := by
    have e : (s.heap.push { cls := .type "dict", data := .dict #[] }).get? s.heap.objs.size = some { cls := .type "dict", data := .dict #[] } := Heap.get?_push_size _ rfl
    exact Heap.lt_size (hk1 _ _ e)
  refine wpAny_bind (wpAny_pyIter_tuple hl1 ?_)
  have k2 : ∀ b o, h1.get? b = some o → (h1.push { cls := .type "tuple_iterator", data := .fields #[.ref l, .int 0 0] }).get? b = some o := fun b o e => Heap.get?_push_of_some _ e
  have kk : ∀ b o, s.heap.get? b = some o → (h1.push { cls := .type "tuple_iterator", data := .fields #[.ref l, .int 0 0] }).get? b = some o := fun b o e => k2 _ _ (hk1 _ _ (k0 _ _ e))
  have hlt : l < s.heap.objs.size := Heap.lt_size hl
  have key := upd_mixT (prog := prog) (w := w) (A := A.in1) (R := wants (fun r s₂ => r = .none ∧ Q (.ref s.heap.objs.size) s₂) E) (S := s.heap.objs.size) (I := h1.objs.size) (l := l) (items := items) (res := Value.none) (by show A.units + 1 + 40 < _; omega) hh
    (Nat.ne_of_lt (Nat.lt_trans hlt hS1)) (Nat.ne_of_lt hS1) (Nat.ne_of_gt hlt) rows 0 [] 0 0
    { s with heap := h1.push { cls := .type "tuple_iterator", data := .fields #[.ref l, .int 0 0] }, toks := tk1 } (by rw [hsz, Nat.zero_add]) (by rw [List.length_nil, Nat.zero_add]; exact hln)
    (fun j r e => by
      obtain ⟨b, e1, e2, e3, e4⟩ := ht j r e
      have hb : b < s.heap.objs.size := e2.lt
      exact ⟨b, by rw [Nat.zero_add]; exact e1, Nat.ne_of_lt hb, Nat.ne_of_lt (Nat.lt_trans hb hS1), e2.keeps kk, NestedIs.at (fun c q vs m hq _ => kk c q hq) _ _ e3, e4⟩)
    ⟨_, Heap.get?_push_size _ rfl, rfl, rfl⟩ (hl1.at fun o e => k2 _ _ e) ((M0.keeps hk1).keeps k2)
    (fun h' tk M' k => ⟨rfl, h h' tk M' fun b o e => k b o (Nat.ne_of_lt (Heap.lt_size e)) (Nat.ne_of_lt (Nat.lt_trans (Heap.lt_size e) hS1)) (kk _ _ e)⟩)
  first
    | exact wpAny_pure ⟨plainId_quiet ud_plain _, key⟩
    | exact wpAny_bind (wpAny_pure (wpAny_pure ⟨plainId_quiet ud_plain _, key⟩))
end
/-- a new tuple's object -/
def tupO (its : List Value) : Obj := { cls := .type "tuple", data := .seq its.toArray }
section
variable {X : Cx} {pins : List (Addr × Obj)} {σ : St} {H : Hp} {s : Shared}
/-- tuple(l) of a list: its object told -/
theorem call_tupleF : CallR X (.type "tuple") (fun xs H Q => ∃ p ys, xs = [.ref p] ∧ SqL X.K H p ys ∧ ∀ l its, Vals ys its → H l = none → Q (.ref l) (upd H l (.frz (tupO its) (.tup ys)))) := by
  intro pins s σ H xs us Q I r h
  obtain ⟨p, ys, rfl, hq, q⟩ := h
  obtain ⟨u, rfl, rx⟩ := vals1 r
  cases rx
  obtain ⟨its, r', pl, hz⟩ := I.list hq
  have hlen := r'.length
  refine call_tuple_list pl.isList (fun h' kp => ?_) (by simp only [List.size_toArray] <;> omega)
  have I1 : Inv X pins σ H { s with heap := h' } := I.kept (t' := s.toks) kp
  have I2 : Inv X pins σ (upd H h'.objs.size (.frz (tupO its) (.tup ys))) { s with heap := h'.push { cls := .type "tuple", data := .seq its.toArray } } :=
    I1.laid (t' := s.toks) (fun b o e => Heap.get?_push_of_some _ e) (Nat.le_refl _) (show ObjOk X.prog X.w _ _ _ (.frz (tupO its) (.tup ys)) from ⟨Heap.get?_push_size _ rfl, hz, its, r', IsTup.new _ _⟩)
  exact ⟨.ref h'.objs.size, _, I2, rfl, q _ its r' (I1.hok.fresh (Nat.le_refl _))⟩
/-- dict(t) of a tuple of pairs -/
def rDictMT (K : PySem.W.Frag) (w : World) : List V → Hp → VK → Prop := fun xs H Q => ∃ (a : Addr) (its : List Value) (ps : List Addr) (ks : List Mv), xs = [.ref a] ∧ H a = some (.frz (tupO its) (.tup (ps.map V.ref))) ∧ Vals (ps.map V.ref) its ∧ Paired (fun p (r : Mv) => SqT K H p [r.2.1, r.2.2]) ps ks ∧
  (∀ r ∈ ks, KyV K H r.1 r.2.1 ∧ r.1.depth ≤ 8) ∧ ks.length ≤ 1000 ∧ ∀ p, H p = none → (p == sysModules) = false → Q (.ref p) (upd H p (mxo p w (mergeM [] ks)))
theorem call_dictMT {K : PySem.W.Frag} {w : World} (hu : X.A.units + 60 < cLine) (hc : X.calm = true) (hK : X.K = K := by rfl) (hw : X.w = w := by rfl) : CallR X (.type "dict") (rDictMT K w) := by
  subst hK hw
  intro pins s σ H xs us Q I r q
  obtain ⟨a, its, ps, ks, ex, ha, rv, hp, hk, hz, q⟩ := q
  subst ex
  obtain ⟨u, eu, rx⟩ := vals1 r
  subst eu
  cases rx
  obtain ⟨ho, _⟩ := I.hok a _ ha
  have ei := refs_at rv
  subst ei
  obtain ⟨rows, rel, hl, hpr⟩ := pairs_mix I hp hk
  have hlen : rows.length ≤ 1000 := by
    rw [← Paired.length rel]
    exact hz
  refine dict_pairs_mixT (rows := rows) hu (I.ok.hd hc) ho rfl rfl rfl (by simp [hl]) (Nat.le_of_lt (small1000 hlen)) (fun j r' e => ?_) fun h' tk M k => ?_
  · obtain ⟨b, e1, e2⟩ := hpr j r' e
    exact ⟨b, by simp [e1], e2⟩
  · refine ⟨.ref s.heap.objs.size, upd H s.heap.objs.size (mxo s.heap.objs.size X.w (mergeM [] ks)), I.laid (t' := tk) k (Nat.le_refl _) (mxo_ok M (rows_puts rel .nil)), rfl, q _ (I.hok.fresh (Nat.le_refl _)) ?_⟩
    exact beq_eq_false_iff_ne.mpr (Nat.ne_of_gt I.big)
/-- dict(x) of a list or of a tuple of pairs -/
theorem call_dictMB {K : PySem.W.Frag} {w : World} (hu : X.A.units + 60 < cLine) (hc : X.calm = true) (hK : X.K = K := by rfl) (hw : X.w = w := by rfl) : CallR X (.type "dict") (fun xs H Q => rDictM K w xs H Q ∨ rDictMT K w xs H Q) := by
  intro pins s σ H xs us Q I r q
  rcases q with q | q
  · exact call_dictM hu hc hK hw _ _ _ _ _ _ _ I r q
  · exact call_dictMT hu hc hK hw _ _ _ _ _ _ _ I r q
end
end L2.Vf
/-! Data stand while tables of code objects grow. -/
namespace L2.Vf
open PySem PySem.Spec PyProof.Rows
open Evl (Ex Ev EvT EvL EvA)
section
variable {K : PySem.W.Frag} {w : World} {H H' : Hp} {S : List Addr}
mutual
theorem Dr.by (sl : ∀ {a : Addr} {xs : List V}, SqL K H a xs → SqL K H' a xs) (st : ∀ {a : Addr} {xs : List V}, SqT K H a xs → SqT K H' a xs) (sm : ∀ {d : Addr} {ks : List Mv}, Mx K H w d ks → Mx K H' w d ks) : ∀ (d : PyData) (v : V), Dr K w H v d → Dr K w H' v d
  | .none, _, h => by cases h; exact .non
  | .bool b, _, h => by cases h; exact .bl b
  | .int i, _, h => by cases h; exact .int i
  | .str x, _, h => by cases h; exact .str x
  | .list ds, _, h => by
    cases h with
    | lst hn hs ha => exact .lst hn (sl hs) (DrAll.by sl st sm ds _ ha)
  | .tuple ds, _, h => by
    cases h with
    | tup hs ha => exact .tup (st hs) (DrAll.by sl st sm ds _ ha)
  | .dict es, _, h => by
    cases h with
    | dct hs ha => exact .dct (sm hs) (DrKv.by sl st sm es _ ha)
theorem DrAll.by (sl : ∀ {a : Addr} {xs : List V}, SqL K H a xs → SqL K H' a xs) (st : ∀ {a : Addr} {xs : List V}, SqT K H a xs → SqT K H' a xs) (sm : ∀ {d : Addr} {ks : List Mv}, Mx K H w d ks → Mx K H' w d ks) : ∀ (ds : List PyData) (vs : List V), DrAll K w H vs ds → DrAll K w H' vs ds
  | [], _, h => by cases h; exact .nil
  | d :: ds, _, h => by
    cases h with
    | cons h1 h2 => exact .cons (Dr.by sl st sm d _ h1) (DrAll.by sl st sm ds _ h2)
theorem DrKv.by (sl : ∀ {a : Addr} {xs : List V}, SqL K H a xs → SqL K H' a xs) (st : ∀ {a : Addr} {xs : List V}, SqT K H a xs → SqT K H' a xs) (sm : ∀ {d : Addr} {ks : List Mv}, Mx K H w d ks → Mx K H' w d ks) : ∀ (es : List (PyData × PyData)) (ks : List Mv), DrKv K w H ks es → DrKv K w H' ks es
  | [], _, h => by cases h; exact .nil
  | (k, v) :: es, _, h => by
    cases h with
    | cons h1 h2 h3 => exact .cons (Dr.by sl st sm k _ h1) (Dr.by sl st sm v _ h2) (DrKv.by sl st sm es _ h3)
end
theorem Dr.N (e : N.But S H H') {v : V} {d : PyData} (h : Dr K w (hide S H) v d) : Dr K w (hide S H') v d := Dr.by (sql_N e) (sqt_N e) (Mx.N e) d v h
theorem DrAll.N (e : N.But S H H') {vs : List V} {ds : List PyData} (h : DrAll K w (hide S H) vs ds) : DrAll K w (hide S H') vs ds := DrAll.by (sql_N e) (sqt_N e) (Mx.N e) ds vs h
theorem hide_none (H : Hp) : hide [] H = H := by
  funext b
  unfold hide
  rw [if_neg (by simp)]
theorem extN_dr (e : LamX.ExtN H H') {v : V} {d : PyData} (h : Dr K w H v d) : Dr K w H' v d := by
  have z := Dr.N (S := []) (K := K) (w := w) (d := d) (v := v) (N.But.extN e) (by rw [hide_none]; exact h)
  rwa [hide_none] at z
theorem extN_sqt (e : LamX.ExtN H H') {a : Addr} {xs : List V} (h : SqT K H a xs) : SqT K H' a xs := by
  have z := sqt_N (S := []) (K := K) (N.But.extN e) (by rw [hide_none]; exact h)
  rwa [hide_none] at z
theorem extN_sql (e : LamX.ExtN H H') {a : Addr} {xs : List V} (h : SqL K H a xs) : SqL K H' a xs := by
  have z := sql_N (S := []) (K := K) (N.But.extN e) (by rw [hide_none]; exact h)
  rwa [hide_none] at z
end
end L2.Vf
/-! Data whose lists may be any (they are not shown). -/
namespace L2.Vf
open PySem PySem.Spec PyProof.Rows
open Evl (Ex Ev EvT EvL EvA)
mutual
inductive Dw (K : PySem.W.Frag) (w : World) (H : Hp) : V → PyData → Prop
  | non : Dw K w H .non .none
  | bl (b : Bool) : Dw K w H (.bl b) (.bool b)
  | int (i : Int) : Dw K w H (.int i) (.int i)
  | str (x : Str) : Dw K w H (.str x) (.str x)
  | lst {a : Addr} {xs : List V} {ds : List PyData} : True → SqL K H a xs → DwAll K w H xs ds → Dw K w H (.ref a) (.list ds)
  | tup {a : Addr} {xs : List V} {ds : List PyData} : SqT K H a xs → DwAll K w H xs ds → Dw K w H (.ref a) (.tuple ds)
  | dct {d : Addr} {ks : List Mv} {es : List (PyData × PyData)} : Mx K H w d ks → DwKv K w H ks es → Dw K w H (.ref d) (.dict es)
inductive DwAll (K : PySem.W.Frag) (w : World) (H : Hp) : List V → List PyData → Prop
  | nil : DwAll K w H [] []
  | cons {v : V} {vs : List V} {d : PyData} {ds : List PyData} : Dw K w H v d → DwAll K w H vs ds → DwAll K w H (v :: vs) (d :: ds)
inductive DwKv (K : PySem.W.Frag) (w : World) (H : Hp) : List Mv → List (PyData × PyData) → Prop
  | nil : DwKv K w H [] []
  | cons {p : Mv} {ks : List Mv} {k v : PyData} {es : List (PyData × PyData)} : Dw K w H p.2.1 k → Dw K w H p.2.2 v → DwKv K w H ks es → DwKv K w H (p :: ks) ((k, v) :: es)
end
section
variable {K : PySem.W.Frag} {w : World} {H H' : Hp}
mutual
theorem Dr.w : ∀ (d : PyData) (v : V), Dr K w H v d → Dw K w H v d
  | .none, _, h => by cases h; exact .non
  | .bool b, _, h => by cases h; exact .bl b
  | .int i, _, h => by cases h; exact .int i
  | .str x, _, h => by cases h; exact .str x
  | .list ds, _, h => by
    cases h with
    | lst hn hs ha => exact .lst trivial hs (DrAll.w ds _ ha)
  | .tuple ds, _, h => by
    cases h with
    | tup hs ha => exact .tup hs (DrAll.w ds _ ha)
  | .dict es, _, h => by
    cases h with
    | dct hs ha => exact .dct hs (DrKv.w es _ ha)
theorem DrAll.w : ∀ (ds : List PyData) (vs : List V), DrAll K w H vs ds → DwAll K w H vs ds
  | [], _, h => by cases h; exact .nil
  | d :: ds, _, h => by
    cases h with
    | cons h1 h2 => exact .cons (Dr.w d _ h1) (DrAll.w ds _ h2)
theorem DrKv.w : ∀ (es : List (PyData × PyData)) (ks : List Mv), DrKv K w H ks es → DwKv K w H ks es
  | [], _, h => by cases h; exact .nil
  | (k, v) :: es, _, h => by
    cases h with
    | cons h1 h2 h3 => exact .cons (Dr.w k _ h1) (Dr.w v _ h2) (DrKv.w es _ h3)
end
mutual
theorem Dw.by (sl : ∀ {a : Addr} {xs : List V}, SqL K H a xs → SqL K H' a xs) (st : ∀ {a : Addr} {xs : List V}, SqT K H a xs → SqT K H' a xs) (sm : ∀ {d : Addr} {ks : List Mv}, Mx K H w d ks → Mx K H' w d ks) : ∀ (d : PyData) (v : V), Dw K w H v d → Dw K w H' v d
  | .none, _, h => by cases h; exact .non
  | .bool b, _, h => by cases h; exact .bl b
  | .int i, _, h => by cases h; exact .int i
  | .str x, _, h => by cases h; exact .str x
  | .list ds, _, h => by
    cases h with
    | lst hn hs ha => exact .lst hn (sl hs) (DwAll.by sl st sm ds _ ha)
  | .tuple ds, _, h => by
    cases h with
    | tup hs ha => exact .tup (st hs) (DwAll.by sl st sm ds _ ha)
  | .dict es, _, h => by
    cases h with
    | dct hs ha => exact .dct (sm hs) (DwKv.by sl st sm es _ ha)
theorem DwAll.by (sl : ∀ {a : Addr} {xs : List V}, SqL K H a xs → SqL K H' a xs) (st : ∀ {a : Addr} {xs : List V}, SqT K H a xs → SqT K H' a xs) (sm : ∀ {d : Addr} {ks : List Mv}, Mx K H w d ks → Mx K H' w d ks) : ∀ (ds : List PyData) (vs : List V), DwAll K w H vs ds → DwAll K w H' vs ds
  | [], _, h => by cases h; exact .nil
  | d :: ds, _, h => by
    cases h with
    | cons h1 h2 => exact .cons (Dw.by sl st sm d _ h1) (DwAll.by sl st sm ds _ h2)
theorem DwKv.by (sl : ∀ {a : Addr} {xs : List V}, SqL K H a xs → SqL K H' a xs) (st : ∀ {a : Addr} {xs : List V}, SqT K H a xs → SqT K H' a xs) (sm : ∀ {d : Addr} {ks : List Mv}, Mx K H w d ks → Mx K H' w d ks) : ∀ (es : List (PyData × PyData)) (ks : List Mv), DwKv K w H ks es → DwKv K w H' ks es
  | [], _, h => by cases h; exact .nil
  | (k, v) :: es, _, h => by
    cases h with
    | cons h1 h2 h3 => exact .cons (Dw.by sl st sm k _ h1) (Dw.by sl st sm v _ h2) (DwKv.by sl st sm es _ h3)
end
theorem Dw.mono (e : Ex H H') (d : PyData) (v : V) (h : Dw K w H v d) : Dw K w H' v d := Dw.by (fun g => Evl.ex_l e g) (fun g => Evl.ex_t e g) (fun g => g.mono e) d v h
theorem DwAll.mono (e : Ex H H') (ds : List PyData) (vs : List V) (h : DwAll K w H vs ds) : DwAll K w H' vs ds := DwAll.by (fun g => Evl.ex_l e g) (fun g => Evl.ex_t e g) (fun g => g.mono e) ds vs h
theorem DwKv.mono (e : Ex H H') (es : List (PyData × PyData)) (ks : List Mv) (h : DwKv K w H ks es) : DwKv K w H' ks es := DwKv.by (fun g => Evl.ex_l e g) (fun g => Evl.ex_t e g) (fun g => g.mono e) es ks h
end
end L2.Vf
/-! isinstance of any data, dicts of mixed keys among them. -/
namespace L2.Vf
open PySem PySem.Spec PyProof.Rows
/-- the type's name -/
def tyD : PyData → String
  | .none => "NoneType"
  | .bool _ => "bool"
  | .int _ => "int"
  | .str _ => "str"
  | .list _ => "list"
  | .tuple _ => "tuple"
  | .dict _ => "dict"
def rIsiD (K : PySem.W.Frag) (w : World) : List V → Hp → VK → Prop := fun xs H Q => ∃ (x : V) (n : String) (d : PyData) (b : Bool), xs = [x, .ty n] ∧ Dw K w H x d ∧ kitB (tyD d) n = some b ∧ Q (.bl b) H
section
variable {X : Cx} {K : PySem.W.Frag} {w : World}
theorem dr_ty {H : Hp} {x : V} {d : PyData} (h : Dw K w H x d) (nd : ∀ es, d ≠ .dict es) : TyX K H x (.type (tyD d)) := by
  cases h with
  | non => exact .base .non
  | bl b => exact .base (.bl b)
  | int i => exact .base (.int i)
  | str x => exact .base (.str x)
  | lst _ h1 _ => exact lst_ty h1
  | tup h1 _ => exact tup_ty h1
  | dct _ _ => exact absurd rfl (nd _)
theorem call_isiD (hK : X.K = K := by rfl) (hw : X.w = w := by rfl) : CallR X (.builtin "isinstance") (rIsiD K w) := by
  subst hK hw
  intro pins s σ H xs us Q I r h
  obtain ⟨x, n, d, b, rfl, hd, e, q⟩ := h
  by_cases nd : ∀ es, d ≠ .dict es
  · exact call_isi pins s σ H _ us Q I r ⟨x, .ty n, _, _, b, rfl, .ty n, dr_ty hd nd, kit_ty e, q⟩
  · obtain ⟨es, ed⟩ : ∃ es, d = .dict es := Classical.byContradiction fun z => nd fun es ee => z ⟨es, ee⟩
    subst ed
    cases hd with
    | dct m _ =>
      obtain ⟨u1, u2, rfl, r1, r2⟩ := vals2 r
      cases r1
      obtain rfl : u2 = Value.type n := r2
      obtain ⟨rows, ⟨o, es', ep, ho, hx, _⟩, _⟩ := m.at_ I
      exact PySem.W.kia_one (PySem.W.kitx_dict (K := X.K)) I.kIn ⟨o, ho, hx.1⟩ (kit_ty e) (fun z => nomatch z) fun tk => ⟨.bl b, H, I.tok tk, rfl, q⟩
end
end L2.Vf
namespace L2.Vf
open PySem PySem.Spec PyProof.Rows
open Evl (Ex Ev EvT EvL EvA)
/-- a comprehension that gives these truths, nothing written -/
theorem lc_bls {J : It} {bs : List Bool} {G : Hp → Prop} {Z : Nat → V → Prop} (wk : Walk J bs.length G (fun i H x H' => H' = H ∧ Z i x)) {g : TG} {tt : TT} {te : TE} {vs : List Nat} {σ : St} {H : Hp} {D : Addr} {Qd : Hp → Prop} (nD : H D = none) (hn : bs.length ≤ 1000)
    (hG : ∀ H', Ex H H' → G H')
    (hs : ∀ i x H' b, bs[i]? = some b → Ex H H' → Z i x → ∀ (N : VK) (M : Hp → Prop), (∀ H4, Ex H' H4 → N (.bl b) H4) → g x (wipe σ vs) H' fun σ2 H2 => wipe σ2 vs = wipe σ vs ∧ tt σ2 H2 fun b H3 => if b = true then te σ2 H3 N else M H3)
    (hd : ∀ H', Ex H H' → H' D = some (.lst (bs.map V.bl)) → Qd H') :
    ∃ W : Nat → Nat → Hp → Prop, (∃ m, W 0 m (upd H D (.lst []))) ∧ ∀ i m H, W i m H →
      (J.stop i H ∧ Qd H) ∨ (J.go i H ∧ ∃ Nx : Hp → Prop, (∀ H', Nx H' → ∃ m', m' < m ∧ W (i + 1) m' H') ∧ ∀ x H', J.yld i H x H' → g x (wipe σ vs) H' fun σ2 H2 => wipe σ2 vs = wipe σ vs ∧ tt σ2 H2 fun b H3 =>
        if b = true then te σ2 H3 fun y H4 => ∃ acc, H4 D = some (.lst acc) ∧ acc.length < sizeLine ∧ Nx (upd H4 D (.lst (acc ++ [y]))) else Nx H3) := by
  refine lc_it wk (fun i H' => Ex H H' ∧ H' D = some (.lst ((bs.take i).map V.bl))) ⟨Ex.new nD, upd_same⟩ (fun i H' _ h => hG H' h.1) ?_ fun H' h => hd H' h.1 (by rw [← List.take_length (l := bs)]; exact h.2)
  rintro i x H1 H2 hi ⟨e1, h1⟩ ⟨rfl, z⟩
  obtain ⟨b, hb⟩ : ∃ b, bs[i]? = some b := ⟨_, List.getElem?_eq_getElem hi⟩
  refine hs i x _ b hb e1 z _ _ fun H4 e4 => ⟨_, e4 _ _ h1, small1000 (by rw [List.length_map, List.length_take]; omega), ?_, ?_⟩
  · intro b o hb
    rw [upd_ne (ne_of_none hb nD)]
    exact e4 _ _ (e1 _ _ hb)
  · rw [upd_same, List.take_add_one, hb, List.map_append]
    rfl
end L2.Vf
/-! Words and numbers, of any data. -/
namespace L2.Vf.K01
open PySem PySem.Spec PyProof.Rows
open Evl (Ex Ev EvT EvL EvA)
abbrev s_is_word : Stmt := top 10
abbrev s_is_number : Stmt := top 12
def inL (c : Nat) : Bool := !(Builtin.Str.occurrences ("abcdefghijklmnopqrstuvwxyz" : Str) ⟨#[c]⟩ 0 ("abcdefghijklmnopqrstuvwxyz" : Str).length 1).isEmpty
def inD (c : Nat) : Bool := !(Builtin.Str.occurrences ("0123456789" : Str) ⟨#[c]⟩ 0 ("0123456789" : Str).length 1).isEmpty
/-- a word, told of the text -/
def wordT (x : Str) : Bool := decide (1 ≤ x.length) && decide (x.length ≤ 12) && (match x.cps.toList with
  | [] => false
  | c :: _ => inL c) && (x.cps.toList.map fun c => inL c || inD c).all id
def wordD : PyData → Bool
  | .str x => wordT x
  | _ => false
def numD : PyData → Bool
  | .int i => decide (0 ≤ i)
  | _ => false
def spIsWord (K : PySem.W.Frag) (w : World) : Sp := fun vs H Q _ => ∃ (v : V) (d : PyData), vs = [v] ∧ Dw K w H v d ∧ (∀ x, d = .str x → x.length ≤ 1000) ∧ ∀ H', Ex H H' → Q (.bl (wordD d)) H'
def spIsNumber (K : PySem.W.Frag) (w : World) : Sp := fun vs H Q _ => ∃ (v : V) (d : PyData), vs = [v] ∧ Dw K w H v d ∧ ∀ H', Ex H H' → Q (.bl (numD d)) H'
def strD : PyData → Bool
  | .str _ => true
  | _ => false
def intD : PyData → Bool
  | .int _ => true
  | .bool _ => true
  | _ => false
def boolD : PyData → Bool
  | .bool _ => true
  | _ => false
theorem kit_str (d : PyData) : kitB (tyD d) "str" = some (strD d) := by
  cases d with
  | none => exact (by decide +kernel : kitB "NoneType" "str" = some false)
  | bool b => exact (by decide +kernel : kitB "bool" "str" = some false)
  | int i => exact (by decide +kernel : kitB "int" "str" = some false)
  | str x => exact (by decide +kernel : kitB "str" "str" = some true)
  | list xs => exact (by decide +kernel : kitB "list" "str" = some false)
  | tuple xs => exact (by decide +kernel : kitB "tuple" "str" = some false)
  | dict es => exact (by decide +kernel : kitB "dict" "str" = some false)
theorem kit_int (d : PyData) : kitB (tyD d) "int" = some (intD d) := by
  cases d with
  | none => exact (by decide +kernel : kitB "NoneType" "int" = some false)
  | bool b => exact (by decide +kernel : kitB "bool" "int" = some true)
  | int i => exact (by decide +kernel : kitB "int" "int" = some true)
  | str x => exact (by decide +kernel : kitB "str" "int" = some false)
  | list xs => exact (by decide +kernel : kitB "list" "int" = some false)
  | tuple xs => exact (by decide +kernel : kitB "tuple" "int" = some false)
  | dict es => exact (by decide +kernel : kitB "dict" "int" = some false)
theorem kit_bool (d : PyData) : kitB (tyD d) "bool" = some (boolD d) := by
  cases d with
  | none => exact (by decide +kernel : kitB "NoneType" "bool" = some false)
  | bool b => exact (by decide +kernel : kitB "bool" "bool" = some true)
  | int i => exact (by decide +kernel : kitB "int" "bool" = some false)
  | str x => exact (by decide +kernel : kitB "str" "bool" = some false)
  | list xs => exact (by decide +kernel : kitB "list" "bool" = some false)
  | tuple xs => exact (by decide +kernel : kitB "tuple" "bool" = some false)
  | dict es => exact (by decide +kernel : kitB "dict" "bool" = some false)
section
variable {P : Program} {w : World} {K : PySem.W.Frag} {mg : Str → Option Value} {base : Heap} {f : Addr} {fd : FuncData}
abbrev n_is_word : List Str := ["value", "sign"]
theorem sc_is_word : FnScope n_is_word ["value"] (defScope s_is_word) := ⟨rfl, rfl, rfl, by decide +kernel, rfl, by decide +kernel, by decide +kernel⟩
theorem ok_is_word (F : Fun K "is_word" "is_word" s_is_word f fd) {t1 t2 t3 : Tok} (m_isinstance : mg "isinstance" = none) (m_str : mg "str" = none) (m_len : mg "len" = none) (m_all : mg "all" = none)
    (m_LETTERS : mg "LETTERS" = some (.str "abcdefghijklmnopqrstuvwxyz" t1)) (m_DIGITS : mg "DIGITS" = some (.str "0123456789" t2)) (m_LONGEST : mg "LONGEST" = some (.int 12 t3)) :
    FnOk P w K mg base CX0 1 f fd ["value"] (spIsWord K w) := by
  refine F.ok sc_is_word (fun vs H Q E h => ?_) (fun cdv A outer s H vs Q E hr h => ?_)
  · obtain ⟨x, d, rfl, _⟩ := h
    rfl
  obtain ⟨v, d, rfl, hd, hl, q⟩ := h
  have hu := hu_of hr
  refine ⟨_, (pss_cons (ps_if (PW.pt (pw_or (pt_not (pt_val (pe_callB (call_isiD (K := K) (w := w)) (by rfl) m_isinstance (by decide +kernel) (pa_cons (pv 0) (pa_cons (pe_bltn (v := .ty "str") (by rfl) m_str (by decide +kernel) rfl) pa_nil))))) (pw_or1 (pt_not (pt_chain op_le op_le pe_int (pe_callB call_len_str (by rfl) m_len PySem.boot_len (pa_cons (pv 0) pa_nil)) (pe_glob (v := .int 12) rfl m_LONGEST ⟨_, rfl⟩))))))
  (pss_one (ps_ret pe_bl))
  pss_nil)
  (pss_one (ps_ret (pe_and (pe_cmpR op_in_str (pe_ix ix_str (pv 0) pe_int (fun _ _ => rfl)) (pe_glob (v := .str "abcdefghijklmnopqrstuvwxyz") rfl m_LETTERS ⟨_, rfl⟩) (by rfl)) (pe_one (pe_callB (cr_allK (K := K) rfl) (by rfl) m_all (by decide +kernel) (pa_cons (pe_lc (own := [("sign", 1)]) (g := gName 1) (tt := _) rfl sc_is_word.nd (pi_str (pv 0)) (blkOk_by (N := n_is_word) (sc := defScope s_is_word) (by decide +kernel)) (fun _ _ _ _ _ => (pg_name (i := 1) sc_is_word.nd rfl (.inl rfl))) (fun _ _ _ _ _ => pts_nil) (fun _ _ _ _ _ => (pe_or (pe_cmpR op_in_str (pv 1) (pe_glob (v := .str "abcdefghijklmnopqrstuvwxyz") rfl m_LETTERS ⟨_, rfl⟩) (by rfl)) (pe_one (pe_cmpR op_in_str (pv 1) (pe_glob (v := .str "0123456789") rfl m_DIGITS ⟨_, rfl⟩) (by rfl)))))) pa_nil))))))), ?_⟩
  refine ⟨_, rfl, v, _, d, _, rfl, hd, kit_str d, _, rfl, ?_⟩
  have other : (∀ x, d ≠ .str x) → wordD d = false := fun h => by
    cases d with
    | str x => exact absurd rfl (h x)
    | _ => rfl
  by_cases ds : ∃ x, d = .str x
  · obtain ⟨x, rfl⟩ := ds
    cases hd
    have l1000 := hl x rfl
    have hz : x.length ≤ sizeLine := Nat.le_of_lt (small1000 l1000)
    refine ite2 (fun z => by cases z) (fun _ => ?_)
    refine ⟨_, rfl, x, rfl, hz, _, _, rfl, rfl, _, rfl, ite2 (fun c1 => ?_) (fun c1 => ?_)⟩
    · refine ⟨_, _, rfl, rfl, _, rfl, ite2 (fun z => ?_) (fun z => ?_)⟩
      · have n12 : decide (x.length ≤ 12) = false := by
          have : ¬ ((x.length : Int) ≤ 12) := fun y => by
            rw [decide_eq_true y] at z
            cases z
          exact decide_eq_false (by omega)
        have e : wordD (.str x) = false := by
          show wordT x = false
          unfold wordT
          rw [n12]
          simp
        have qq := q H (Ex.refl H)
        rw [e] at qq
        exact qq
      · have y1 : 1 ≤ x.length := by
          have := of_decide_eq_true c1
          omega
        have y2 : x.length ≤ 12 := by
          have : (x.length : Int) ≤ 12 := Classical.byContradiction fun y => z (by rw [decide_eq_false y]; rfl)
          omega
        dsimp only [tNext]
        have lx : x.length = x.cps.toList.length := by show x.cps.size = _; simp
        obtain ⟨c, r, hc⟩ : ∃ c r, x.cps.toList = c :: r := by
          cases h : x.cps.toList with
          | nil => rw [h] at lx; rw [lx] at y1; cases y1
          | cons c r => exact ⟨c, r, rfl⟩
        have e : wordD (.str x) = (inL c && (x.cps.toList.map fun c => inL c || inD c).all id) := by
          show wordT x = _
          unfold wordT
          rw [decide_eq_true y1, decide_eq_true y2, hc]
          rfl
        refine ⟨_, rfl, _, _, c, rfl, rfl, hz, atI_nat (j := 0) (by rw [hc]; rfl), _, _, rfl, rfl, inL c, rfl, ite2 (fun t => ?_) (fun t => ?_)⟩
        · have lb : (x.cps.toList.map fun c => inL c || inD c).length = x.cps.size := by simp
          refine ⟨_, rfl, x, rfl, fun D nD => ?_⟩
          have wk := walk_str (z := x)
          rw [← lb] at wk
          refine lc_bls (bs := x.cps.toList.map fun c => inL c || inD c) wk nD (by rw [lb]; exact l1000) (fun _ _ => True.intro) ?_ ?_
          · rintro i v H1 b hb e1 ⟨ch, hch, rfl⟩ N M k
            rw [List.getElem?_map, Array.getElem?_toList, hch] at hb
            obtain rfl : (inL ch || inD ch) = b := Option.some.inj hb
            refine ⟨rfl, _, rfl, _, _, rfl, rfl, inL ch, rfl, ite2 (fun z => ?_) (fun z => ⟨_, rfl, _, _, rfl, rfl, ?_⟩)⟩
            · have kk := k _ (Ex.refl _)
              rw [show inL ch = true from z] at kk
              exact kk
            · have kk := k _ (Ex.refl _)
              rw [show inL ch = false from Bool.eq_false_iff.mpr z] at kk
              exact kk
          · intro H1 e1 h1
            refine ⟨D, _, rfl, SqL.of h1, ?_⟩
            have qq := q H1 e1
            rw [e, show inL c = true from t] at qq
            exact qq
        · have qq := q H (Ex.refl H)
          rw [e, show inL c = false from Bool.eq_false_iff.mpr t] at qq
          exact qq
    · have n1 : decide (1 ≤ x.length) = false := decide_eq_false fun y => c1 (decide_eq_true (by omega))
      have e : wordD (.str x) = false := by
        show wordT x = false
        unfold wordT
        rw [n1]
        rfl
      have qq := q H (Ex.refl H)
      rw [e] at qq
      exact ⟨_, rfl, ite2 (fun _ => qq) (fun z => absurd rfl z)⟩
  · have e := other fun x h => ds ⟨x, h⟩
    have qq := q H (Ex.refl H)
    rw [e] at qq
    have f : strD d = false := by
      cases d with
      | str x => exact absurd ⟨x, rfl⟩ ds
      | _ => rfl
    rw [f]
    exact ite2 (fun _ => qq) (fun z => absurd rfl z)
abbrev n_is_number : List Str := ["value"]
theorem sc_is_number : FnScope n_is_number ["value"] (defScope s_is_number) := ⟨rfl, rfl, rfl, by decide +kernel, rfl, by decide +kernel, by decide +kernel⟩
theorem ok_is_number (F : Fun K "is_number" "is_number" s_is_number f fd) (m_isinstance : mg "isinstance" = none) (m_int : mg "int" = none) (m_bool : mg "bool" = none) :
    FnOk P w K mg base CX0 1 f fd ["value"] (spIsNumber K w) := by
  refine F.ok sc_is_number (fun vs H Q E h => ?_) (fun cdv A outer s H vs Q E hr h => ?_)
  · obtain ⟨x, d, rfl, _⟩ := h
    rfl
  obtain ⟨v, d, rfl, hd, q⟩ := h
  have hu := hu_of hr
  refine ⟨_, (pss_one (ps_ret (pe_and (pe_callB (call_isiD (K := K) (w := w)) (by rfl) m_isinstance (by decide +kernel) (pa_cons (pv 0) (pa_cons (pe_bltn (v := .ty "int") (by rfl) m_int (by decide +kernel) rfl) pa_nil))) (pe_and (pe_not (pe_callB (call_isiD (K := K) (w := w)) (by rfl) m_isinstance (by decide +kernel) (pa_cons (pv 0) (pa_cons (pe_bltn (v := .ty "bool") (by rfl) m_bool (by decide +kernel) rfl) pa_nil)))) (pe_one (pe_cmpR op_ge (pv 0) pe_int (nomark _))))))), ?_⟩
  have qq := q H (Ex.refl H)
  refine ⟨_, rfl, v, _, d, _, rfl, hd, kit_int d, _, rfl, ?_⟩
  cases hd with
  | int i =>
    refine ite2 (fun _ => ?_) (fun z => absurd rfl z)
    refine ⟨_, rfl, _, _, .int i, _, rfl, .int i, kit_bool (.int i), _, rfl, _, rfl, ite2 (fun _ => ?_) (fun z => absurd rfl z)⟩
    exact ⟨_, rfl, _, _, rfl, rfl, qq⟩
  | bl b =>
    refine ite2 (fun _ => ?_) (fun z => absurd rfl z)
    exact ⟨_, rfl, _, _, .bool b, _, rfl, .bl b, kit_bool (.bool b), _, rfl, _, rfl, ite2 (fun z => by cases z) (fun _ => qq)⟩
  | non => exact ite2 (fun z => by cases z) (fun _ => qq)
  | str x => exact ite2 (fun z => by cases z) (fun _ => qq)
  | lst _ _ _ => exact ite2 (fun z => by cases z) (fun _ => qq)
  | tup _ _ => exact ite2 (fun z => by cases z) (fun _ => qq)
  | dct _ _ => exact ite2 (fun z => by cases z) (fun _ => qq)
end
end L2.Vf.K01
/-! isinstance of any data, a tuple of two types. -/
namespace L2.Vf
open PySem PySem.Spec PyProof.Rows
def rIsiDT (K : PySem.W.Frag) (w : World) : List V → Hp → VK → Prop := fun xs H Q => ∃ (x : V) (tp : Addr) (n m : String) (d : PyData) (b c : Bool), xs = [x, .ref tp] ∧ H tp = some (.tup [.ty n, .ty m]) ∧ Dw K w H x d ∧ kitB (tyD d) n = some b ∧ kitB (tyD d) m = some c ∧ Q (.bl (b || c)) H
section
variable {X : Cx} {K : PySem.W.Frag} {w : World}
theorem kitAny_two {K : PySem.W.Frag} {t n m : String} {b c : Bool} (h1 : kitB t n = some b) (h2 : kitB t m = some c) : PySem.W.kitAny K (.type t) [.type n, .type m] = some (b || c) := by
  refine kitAny_cons (b := b) (kit_ty h1) (fun e => ?_) (fun e => by rw [e]; rfl)
  refine kitAny_cons (b := c) (kit_ty h2) (fun e2 => by rw [e, e2]; exact kitAny_nil) (fun e2 => by rw [e2, Bool.or_true])
theorem call_isiDT (hK : X.K = K := by rfl) (hw : X.w = w := by rfl) : CallR X (.builtin "isinstance") (rIsiDT K w) := by
  subst hK hw
  intro pins s σ H xs us Q I r h
  obtain ⟨x, tp, n, m, d, b, c, rfl, hT, hd, e1, e2, q⟩ := h
  by_cases nd : ∀ es, d ≠ .dict es
  · exact call_isiT pins s σ H _ us Q I r ⟨x, tp, _, _, _, _, rfl, hT, .cons (.ty n) (.cons (.ty m) .nil), dr_ty hd nd, kitAny_two e1 e2, q⟩
  · obtain ⟨es, ed⟩ : ∃ es, d = .dict es := Classical.byContradiction fun z => nd fun es ee => z ⟨es, ee⟩
    subst ed
    cases hd with
    | dct mm _ =>
      obtain ⟨u1, u2, rfl, r1, r2⟩ := vals2 r
      cases r1
      cases (show u2 = Value.ref tp from r2)
      obtain ⟨_, its, rv, o, h1, h2, n', h3⟩ := (show ObjOk X.prog X.w H s.heap tp (.tup [.ty n, .ty m]) from I.hok tp _ hT)
      have e3 := ClsV.all (.cons (.ty n) (.cons (.ty m) .nil)) rv
      subst e3
      obtain ⟨oc, od, dt, sl⟩ := o
      simp only at h2 h3
      subst h2 h3
      obtain ⟨rows, ⟨o, es', ep, ho, hx, _⟩, _⟩ := mm.at_ I
      exact PySem.W.kia_tup (PySem.W.kitx_dict (K := X.K)) I.kIn ⟨o, ho, hx.1⟩ h1 (kitAny_two e1 e2) (fun z => nomatch z) fun tk => ⟨.bl (b || c), H, I.tok tk, rfl, q⟩
/-- isinstance(x, C), C an own class: an instance of it, or data -/
def rIsiCD (K : PySem.W.Frag) (w : World) (C : Addr) : List V → Hp → VK → Prop := fun xs H Q => ∃ x, xs = [x, .ref C] ∧ ((∃ a dx fs, x = .ref a ∧ H a = some (.ins C dx fs) ∧ Q (.bl true) H) ∨ (∃ d, Dw K w H x d ∧ PySem.W.kitOne K (.type (tyD d)) (.ref C) = some false ∧ Q (.bl false) H))
theorem call_isiCD {C : Addr} (c : C8.InsC K C) (hK : X.K = K := by rfl) (hw : X.w = w := by rfl) : CallR X (.builtin "isinstance") (rIsiCD K w C) := by
  subst hK hw
  intro pins s σ H xs us Q I r h
  obtain ⟨x, rfl, h⟩ := h
  rcases h with ⟨a, dx, fs, rfl, ha, q⟩ | ⟨d, hd, e, q⟩
  · exact C8.call_isC c pins s σ H _ us Q I r ⟨a, dx, fs, rfl, ha, q⟩
  · by_cases nd : ∀ es, d ≠ .dict es
    · exact call_isi pins s σ H _ us Q I r ⟨x, .ref C, _, _, false, rfl, .own C, dr_ty hd nd, e, q⟩
    · obtain ⟨es, ed⟩ : ∃ es, d = .dict es := Classical.byContradiction fun z => nd fun es ee => z ⟨es, ee⟩
      subst ed
      cases hd with
      | dct m _ =>
        obtain ⟨u1, u2, rfl, r1, r2⟩ := vals2 r
        cases r1
        cases (show u2 = Value.ref C from r2)
        obtain ⟨rows, ⟨o, es', ep, ho, hx, _⟩, _⟩ := m.at_ I
        exact PySem.W.kia_one (PySem.W.kitx_dict (K := X.K)) I.kIn ⟨o, ho, hx.1⟩ e (fun z => nomatch z) fun tk => ⟨.bl false, H, I.tok tk, rfl, q⟩
end
end L2.Vf
/-! A list or a tuple, walked. -/
namespace L2.Vf
open PySem PySem.Spec PyProof.Rows
open Evl (Ex Ev EvT EvL EvA)
/-- a list (true) or a tuple (false) -/
def SqB (K : PySem.W.Frag) (b : Bool) (H : Hp) (a : Addr) (xs : List V) : Prop := match b with
  | true => SqL K H a xs
  | false => SqT K H a xs
def ItB (K : PySem.W.Frag) (b : Bool) (a : Addr) : It := match b with
  | true => Itl K a
  | false => Itt K a
theorem walk_b {K : PySem.W.Frag} {b : Bool} {a : Addr} {xs : List V} : Walk (ItB K b a) xs.length (fun H => SqB K b H a xs) (YAt xs) := by
  cases b
  · exact walk_tup
  · exact walk_list
theorem SqB.mono {K : PySem.W.Frag} {b : Bool} {H H' : Hp} {a : Addr} {xs : List V} (e : Ex H H') (h : SqB K b H a xs) : SqB K b H' a xs := by
  cases b
  · exact Evl.ex_t e h
  · exact Evl.ex_l e h
theorem SqB.lenS {K : PySem.W.Frag} {b : Bool} {H : Hp} {a : Addr} {xs : List V} (h : SqB K b H a xs) : SqL K H a xs ∨ SqT K H a xs := by
  cases b
  · exact .inr h
  · exact .inl h
def iSqB (K : PySem.W.Frag) (tl : TE) : TI := fun σ H R => tl σ H fun x H1 => ∃ (a : Addr) (b : Bool) (xs : List V), x = .ref a ∧ SqB K b H1 a xs ∧ R (ItB K b a) H1
theorem pi_sqB {X : Cx} {tg l : Expr} {tl : TE} (hl : PE X l tl) : PI X tg l (iSqB X.K tl) := by
  refine ⟨fun pins s σ H R I h => ?_⟩
  refine thn (hl.run pins s σ H _ I h) fun v s1 ⟨x, H1, I1, r1, q1⟩ => ?_
  obtain ⟨a, b, xs, e, hq, q⟩ := q1
  subst e
  cases r1
  cases b
  · obtain ⟨its, rv, p, hz⟩ := I1.tuple (show SqT X.K H1 a xs from hq)
    refine wpAny_pyIter_tuple (show s1.heap.IsTuple a its.toArray from p) ?_
    refine ⟨s1.heap.objs.size, [s1.heap.objs.size], _, _, H1, rfl, I1.kept (t' := s1.toks) fun b o e => Heap.get?_push_of_some _ e, turn_tuple a _, ⟨_, Heap.get?_push_size _ rfl, rfl, rfl⟩, fun b hb => ?_, q⟩
    have e : b = s1.heap.objs.size := by simpa using hb
    subst e
    exact I1.fpOk (Nat.le_refl _) (I1.hok.fresh (Nat.le_refl _))
  · obtain ⟨its, rv, p, hz⟩ := I1.list (show SqL X.K H1 a xs from hq)
    refine wpAny_pyIter_list p.isList ?_
    refine ⟨s1.heap.objs.size, [s1.heap.objs.size], _, _, H1, rfl, I1.kept (t' := s1.toks) fun b o e => Heap.get?_push_of_some _ e, turn_list a _, ⟨_, Heap.get?_push_size _ rfl, rfl, rfl⟩, fun b hb => ?_, q⟩
    have e : b = s1.heap.objs.size := by simpa using hb
    subst e
    exact I1.fpOk (Nat.le_refl _) (I1.hok.fresh (Nat.le_refl _))
/-- a dict comprehension over what is walked, nothing else written -/
theorem dcM_w {K : PySem.W.Frag} {w : World} {J : It} {xs : List V} {G : Hp → Prop} {g : TG} {tt : TT} {tk tv : TE} {vs : List Nat} {σ : St} {H : Hp} {D : Addr} {Qd : Hp → Prop} (wk : Walk J xs.length G (YAt xs)) (Iv : Nat → List Mv → Prop) (nD : H D = none) (sD : (D == sysModules) = false) (hG : ∀ H', Ex H H' → G H') (hn : xs.length ≤ 900) (h0 : Iv 0 [])
    (hs : ∀ i x H' ks, xs[i]? = some x → Ex H H' → Iv i ks → ∀ (N : V → V → Hp → Prop) (M : Hp → Prop), (∀ k y z H5, Ex H' H5 → KyV K H5 k y → k.depth ≤ 8 → Iv (i + 1) (pM ks k y z) → N y z H5) → (∀ H5, Ex H' H5 → Iv (i + 1) ks → M H5) →
      g x (wipe σ vs) H' fun σ2 H2 => wipe σ2 vs = wipe σ vs ∧ tt σ2 H2 fun b H3 => if b = true then tk σ2 H3 fun y H4 => tv σ2 H4 fun z H5 => N y z H5 else M H3)
    (hd : ∀ H' ks, Ex H H' → Mx K H' w D ks → H' D = some (mxo D w ks) → Iv xs.length ks → ks.length ≤ xs.length → Qd H') :
    ∃ W : Nat → Nat → Hp → Prop, (∃ m, W 0 m (upd H D (mxo D w []))) ∧ ∀ i m H, W i m H →
      (J.stop i H ∧ Qd H) ∨ (J.go i H ∧ ∃ Nx : Hp → Prop, (∀ H', Nx H' → ∃ m', m' < m ∧ W (i + 1) m' H') ∧ ∀ x H', J.yld i H x H' → g x (wipe σ vs) H' fun σ2 H2 => wipe σ2 vs = wipe σ vs ∧ tt σ2 H2 fun b H3 =>
        if b = true then tk σ2 H3 fun y H4 => tv σ2 H4 fun z H5 => ∃ (ks : List Mv) (k : NestedKey), Mx K H5 w D ks ∧ H5 D = some (mxo D w ks) ∧ KyV K H5 k y ∧ k.depth ≤ 8 ∧ ks.length < 1000 ∧ Nx (upd H5 D (mxo D w (pM ks k y z))) else Nx H3) := by
  refine ⟨fun i m H' => m = xs.length - i ∧ i ≤ xs.length ∧ ∃ ks, Ex H H' ∧ Mx K H' w D ks ∧ H' D = some (mxo D w ks) ∧ Iv i ks ∧ ks.length ≤ i, ⟨xs.length, by simp, Nat.zero_le _, [], Ex.new nD, Mx.new sD, upd_same, h0, Nat.le_refl _⟩, ?_⟩
  rintro i m H1 ⟨rfl, le, ks, e1, m1, o1, iv, lk⟩
  have q := hG H1 e1
  rcases Nat.lt_or_ge i xs.length with lt | ge
  · refine .inr ⟨wk.goes i H1 lt q, fun H' => ∃ ks, Ex H H' ∧ Mx K H' w D ks ∧ H' D = some (mxo D w ks) ∧ Iv (i + 1) ks ∧ ks.length ≤ i + 1, fun H' p' => ⟨xs.length - (i + 1), by omega, rfl, lt, p'⟩, fun x H' y => ?_⟩
    obtain ⟨rfl, hx⟩ := wk.yields i H1 x H' lt q y
    refine hs i x _ ks hx e1 iv _ _ (fun k y z H5 e5 hk dk iv' => ?_) fun H5 e5 iv' => ⟨ks, Ex.trans e1 e5, m1.mono e5, e5 _ _ o1, iv', Nat.le_succ_of_le lk⟩
    refine ⟨ks, k, m1.mono e5, e5 _ _ o1, hk, dk, by omega, pM ks k y z, ?_, (m1.mono e5).put (e5 _ _ o1) hk dk (by omega), upd_same, iv', Nat.le_trans pM_len (by omega)⟩
    intro b o hb
    rw [upd_ne (ne_of_none hb nD)]
    exact e5 _ _ (e1 _ _ hb)
  · obtain rfl : i = xs.length := by omega
    exact .inl ⟨wk.stops _ q, hd H1 ks e1 m1 o1 iv lk⟩
/-- keys put one after another: how many there are -/
theorem keys_all {α : Type} [DecidableEq α] : ∀ (L acc : List α), acc.Nodup → ((L.foldl (fun a k => if k ∈ a then a else a ++ [k]) acc).length = acc.length + L.length ↔ (acc ++ L).Nodup) ∧ (L.foldl (fun a k => if k ∈ a then a else a ++ [k]) acc).length ≤ acc.length + L.length
  | [], acc, h => by simp [h]
  | x :: L, acc, h => by
    rw [List.foldl_cons]
    by_cases m : x ∈ acc
    · rw [if_pos m]
      have ih := (keys_all L acc h).2
      refine ⟨⟨fun z => by rw [List.length_cons] at z; omega, fun z => ?_⟩, by rw [List.length_cons]; omega⟩
      rw [List.nodup_append] at z
      exact absurd rfl (z.2.2 x m x List.mem_cons_self)
    · rw [if_neg m]
      have nd : (acc ++ [x]).Nodup := by
        rw [List.nodup_append]
        refine ⟨h, by simp, fun a ha b hb e => ?_⟩
        rw [List.mem_singleton.mp hb] at e
        exact m (e ▸ ha)
      have ih := keys_all L (acc ++ [x]) nd
      rw [List.append_assoc, List.length_append] at ih
      rw [List.length_cons]
      simp only [List.length_singleton, List.singleton_append] at ih
      exact ⟨⟨fun z => ih.1.mp (by omega), fun z => by have := ih.1.mpr z; omega⟩, by omega⟩
def putK {α : Type} [DecidableEq α] (a : List α) (k : α) : List α := if k ∈ a then a else a ++ [k]
theorem pM_keysP (ks : List Mv) (k : NestedKey) (y z : V) : (pM ks k y z).map (·.1) = putK (ks.map (·.1)) k := by
  rw [pM_keys]
  unfold putK
  by_cases m : k ∈ ks.map (·.1)
  · rw [if_pos m, if_pos (vM_some.mpr m)]
  · rw [if_neg m, if_neg (fun z => m (vM_some.mp z))]
theorem put_grow {α : Type} [DecidableEq α] : ∀ (L acc : List α), acc.length ≤ (L.foldl putK acc).length
  | [], _ => Nat.le_refl _
  | x :: L, acc => by
    rw [List.foldl_cons]
    refine Nat.le_trans ?_ (put_grow L _)
    unfold putK
    split
    · exact Nat.le_refl _
    · rw [List.length_append]
      omega
theorem put_len {α : Type} [DecidableEq α] (L : List α) : (L.foldl putK []).length = L.length ↔ L.Nodup := by
  have z := (keys_all L [] List.nodup_nil).1
  rw [List.length_nil, Nat.zero_add, List.nil_append] at z
  exact z
theorem put_one {α : Type} [DecidableEq α] (x : α) : ∀ t : List α, (t.foldl putK [x]).length ≤ 1 ↔ ∀ y ∈ t, y = x
  | [] => by simp
  | y :: t => by
    rw [List.foldl_cons]
    by_cases e : y = x
    · have : putK [x] y = [x] := by unfold putK; rw [if_pos (by simp [e])]
      rw [this, put_one x t]
      simp [e]
    · have : putK [x] y = [x, y] := by unfold putK; rw [if_neg (by simp [e])]; rfl
      rw [this]
      have g := put_grow t [x, y]
      constructor
      · intro z
        simp only [List.length_cons, List.length_nil] at g
        omega
      · intro z
        exact absurd (z y List.mem_cons_self) e
end L2.Vf
/-! raise X(), X an own exception class without own __init__. -/
namespace L2.Vf
open PySem PySem.Spec PyProof.Rows
section
variable {X : Cx} {pos : Pos}
theorem pmk_own0 {C : Addr} {bmB : List Value} {B newId initId : String} {x : Str} {p : Pos} (F : ExcBaseFacts B newId initId bmB) (q : PySem.W.excIn X.K C bmB newId = true) (gC : X.mg x = some (.ref C))
    (kC : PySem.W.keepIn X.K (.ref C) = true) (r : Raises X (.ref C)) (hg : Gl X x) (hdb : (x == ("__debug__" : Str)) = false := by decide) :
    PMk X (.Call (.Name x p) [] [] pos) (fun _ H Q => Q (.ref C) none H) := by
  intro pins s σ H Q I h
  refine wpAny_Call_Name_kw (ld_glob I hg gC ?_ hdb)
  refine PySem.W.callWith_K0 I.kIn kC ?_
  show wpAny _ _ (call (.ref C) []) _ _ _
  obtain ⟨bm, N, nm, qn, bs, hdct, sn, sub, ab, col, dd, k0, k1, k2, k3, k5, mN, hC, hN, hni, T⟩ := exc_obj I.kIn q
  refine wpAny_call_exc_subT F T hC hN hni (fun h' a hm => ?_) (by show 0 ≤ sizeLine; exact Nat.zero_le _)
  exact mk_of I hm r h (I.hok.gone hm.new)
end
section
variable {X : Cx} {CX : CXT} {k : Nat} {f C : Addr} {fd : FuncData} {ps : List Str} {sp : Sp} {dvs : List V} {ds : List Value} {E : St → XK} {x : Str} {p pos : Pos} {e : Expr} {es : List Expr} {t : TA}
/-- C(e, ..) where what is raised is wished for at the caller's slots -/
def tMakeSD (C : Addr) (sp : Sp) (dvs : List V) (E : St → XK) (t : TA) : TE := fun σ H Q => t σ H fun vs H1 => ∀ x dx, H1 x = none → H1 dx = none → dx ≠ x → sp (.ref x :: (vs ++ dvs)) (upd (upd H1 dx (.own x)) x (.ins C dx [])) (fun v H2 => v = .non ∧ Q (.ref x) H2) (E σ)
theorem run_makeSD {pins : List (Addr × Obj)} {σ : St} {H : Hp} {s : Shared} {Q : VK} {us : List Value} {vs : List V} (M : Mk X.K C f) (F : FnOk X.prog X.w X.K X.mg X.base CX k f fd ps sp) (hr : Room (k + 1) X.A) (hb : Binds X.K fd ps ds) (hd : Vals dvs ds)
    (hx : PassesAt CX X σ (E σ)) (I : Inv X pins σ H s) (r : Vals vs us)
    (h : ∀ x dx, H x = none → H dx = none → dx ≠ x → sp (.ref x :: (vs ++ dvs)) (upd (upd H dx (.own x)) x (.ins C dx [])) (fun v H2 => v = .non ∧ Q (.ref x) H2) (E σ)) :
    wpAny (model X.prog X.w) X.A (call (.ref C) us) (EP X pins σ Q) X.xe s := by
  have hq := h (s.heap.objs.size + 1) s.heap.objs.size (I.hok.fresh (Nat.le_succ _)) (I.hok.fresh (Nat.le_refl _)) (Nat.ne_of_lt (Nat.lt_succ_self _))
  have I2 := Inv.made (C := C) I
  have r2 : Vals (V.ref (s.heap.objs.size + 1) :: (vs ++ dvs)) (Value.ref (s.heap.objs.size + 1) :: (us ++ ds)) := .cons rfl (r.append hd)
  have hl : (Value.ref (s.heap.objs.size + 1) :: us ++ ds).length = ps.length := by
    have e := r2.length
    rw [F.len _ _ _ _ hq] at e
    exact e.symm
  refine wpAny_call (make_map (f := f) I.kIn M.makes M.init (beq_iff_eq.mp M.fn) (codeAny_mono (F.run _ X.stack _ _ ⟨Value.ref (s.heap.objs.size + 1) :: us, []⟩ (Value.ref (s.heap.objs.size + 1) :: (us ++ ds)) _ _ (E σ) (hr.make C us [])
    (I2.env0.make C us []) (hb _ (Value.ref (s.heap.objs.size + 1) :: us) I2.kIn hl) r2 hq) fun r s' hq' => ?_))
  cases r with
  | error e => exact hx pins _ _ e s' I2 hq'
  | ok fl =>
    cases fl with
    | ret u =>
      obtain ⟨v, H', I3, rv, ev, q3⟩ := I2.after hq'
      subst ev
      exact ⟨rv, ⟨V.ref (s.heap.objs.size + 1), H', I3, rfl, q3⟩⟩
    | next => exact False.elim hq'
    | brk => exact False.elim hq'
    | cont => exact False.elim hq'
theorem pe_makeSD (M : Mk X.K C f) (F : FnOk X.prog X.w X.K X.mg X.base CX k f fd ps sp) (hr : Room (k + 1) X.A) (hg : Gl X x) (hm : X.mg x = some (.ref C)) (hb : Binds X.K fd ps ds) (hd : Vals dvs ds) (hx : ∀ σ, PassesAt CX X σ (E σ))
    (ha : PA X (e :: es) t) (hdb : (x == ("__debug__" : Str)) = false := by decide) (he : starEach (e :: es) X.env = (false, eval e X.env) :: starEach es X.env := by rfl) (hpl : (backTo pos (starEach es X.env)).any (·.1) = false := by rfl) :
    PE X (.Call (.Name x p) (e :: es) [] pos) (tMakeSD C sp dvs E t) := by
  refine ⟨fun pins s σ H Q I h => ?_⟩
  refine wpAny_Call_Name_kw (ld_glob I hg hm ?_ hdb)
  refine PySem.W.callWith_K (h₀ := X.base) I.ok.mod.kin M.kp (thn (ha.run pos pins s σ H _ I h) fun us s1 ⟨vs, H1, I1, r, q⟩ => ⟨I1.kIn, ?_⟩) he hpl
  exact run_makeSD M F hr hb hd (hx σ) I1 r q
end
end L2.Vf
/-! raise C(e, ..), C an own exception class with its own __init__, of any line. -/
namespace L2.Vf
open PySem PySem.Spec PyProof.Rows
/-- C(e, ..), C's own __init__ keeping sp; what is raised bears its fields -/
def tMkX (C : Addr) (sp : Sp) (ta : TA) : St → Hp → XK → Prop := fun σ H Q => ta σ H fun vs H1 => vs.length ≤ 1000 ∧ ∀ a, H1 a = none → sp (.ref a :: vs) (upd H1 a (exo a C none))
  (fun v H2 => v = .non ∧ ∃ (d : Addr) (fs : List (Str × V)), H2 a = some (exo a C (some d)) ∧ H2 d = some (exd d fs) ∧ H1 d = none ∧ Q (.ref C) (some d) (upd (del H2 a) d (.xd fs))) (fun _ _ _ => False)
section
variable {X : Cx} {C : Addr} {tl : List Value} {B newId initId : String} {e : Expr} {es : List Expr} {ta : TA} {p pos : Pos}
theorem pmk_x {CX : CXT} {x : Str} {fI : Addr} {k : Nat} {fd : FuncData} {ps : List Str} {sp : Sp} (F : ExcBaseFacts B newId initId tl) (W : Xcl X.K C tl newId) (rz : Raises X (.ref C)) (iC : PySem.W.findIn X.K (.ref C) "__init__" = some (some (.ref fI)))
    (tI : PySem.W.typeIn X.K (.ref fI) = some (.type "function")) (F1 : FnOk X.prog X.w X.K X.mg X.base CX k fI fd ps sp) (hr : Room (k + 1) X.A) (hb : Binds X.K fd ps []) (hx : Passes CX X (fun _ _ _ => False)) (hg : Gl X x) (hm : X.mg x = some (.ref C)) (ha : PA X (e :: es) ta)
    (hdb : (x == ("__debug__" : Str)) = false := by decide) (he : starEach (e :: es) X.env = (false, eval e X.env) :: starEach es X.env := by rfl) (hpl : (backTo pos (starEach es X.env)).any (·.1) = false := by rfl) :
    PMk X (.Call (.Name x p) (e :: es) [] pos) (tMkX C sp ta) := by
  intro pins s σ H Q I h
  obtain ⟨nm, q, N, bs, bm, sn, sub, ab, col, dd, k0, k1, k2, k3, k5, hC, hbm⟩ := W.cls
  refine wpAny_Call_Name_kw (ld_glob I hg hm ?_ hdb)
  refine PySem.W.callWith_K (h₀ := X.base) I.ok.mod.kin W.kp (thn (ha.run pos pins s σ H _ I h) fun us s1 ⟨vs, H1, I1, r1, hz, q1⟩ => ⟨I1.kIn, ?_⟩) he hpl
  show wpAny _ _ (call (.ref C) us) _ _ _
  obtain ⟨hp, g, dr, tk, os⟩ := s1
  have big : hp.objs.size ≤ hp.objs.size + 1 := Nat.le_succ _
  have hq := q1 (hp.objs.size + 1) (I1.hok.fresh big)
  have grown : ∀ b o, hp.get? b = some o → ((hp.push (PySem.W.kdv_tup us)).push (PySem.HandSPX.excO C hp.objs.size)).get? b = some o :=
    fun b o z => Heap.get?_push_of_some _ (Heap.get?_push_of_some _ z)
  have here : ((hp.push (PySem.W.kdv_tup us)).push (PySem.HandSPX.excO C hp.objs.size)).get? (hp.objs.size + 1) = some (PySem.HandSPX.excO C hp.objs.size) := by heap_get
  have I2 := I1.laid (t' := tk) (a := hp.objs.size + 1) (o := exo (hp.objs.size + 1) C none)
    (h' := (hp.push (PySem.W.kdv_tup us)).push (PySem.HandSPX.excO C hp.objs.size)) grown big (exo_ok here)
  have r2 : Vals (V.ref (hp.objs.size + 1) :: vs) (Value.ref (hp.objs.size + 1) :: us) := .cons rfl r1
  have hl : (Value.ref (hp.objs.size + 1) :: us).length = ps.length := by
    have z := r2.length
    rw [F1.len _ _ _ _ hq] at z
    exact z.symm
  have hus : us.length ≤ sizeLine := by
    rw [← Paired.length r1, sizeLine_eq]
    omega
  have hbind := hb _ (Value.ref (hp.objs.size + 1) :: us) I2.kIn (by rw [List.append_nil]; exact hl)
  rw [List.append_nil] at hbind
  refine wpAny_call (PySem.HandSPX.call_own F (fun Y => VfX.refsT_has Y bm hbm) (I1.kIn _ _ hC) (PySem.W.looks_findIn I1.kIn iC)
    (fun self => PySem.W.bind_fn I1.kIn self tI) hus
    (codeAny_mono (F1.run _ X.stack _ _ ⟨Value.ref (hp.objs.size + 1) :: us, []⟩ (Value.ref (hp.objs.size + 1) :: us) _ _ (fun _ _ _ => False)
      (hr.make C us []) (I2.env0.make C us []) hbind r2 hq) fun r s' hq' => ?_))
  cases r with
  | error er => exact hx pins σ _ _ er s' I2 hq'
  | ok fl =>
    cases fl with
    | ret u =>
      obtain ⟨v, H2, os2, bare2, un2, hok2, rv, ev, d, fs, ea, ed, hd1, q2⟩ := hq'
      subst ev
      obtain ⟨h2, g2, d2, t2, os'⟩ := s'
      exact ⟨rv, mk_end rz I1 big grown un2 hok2 os2 bare2 ea ed hd1 q2⟩
    | next => exact False.elim hq'
    | brk => exact False.elim hq'
    | cont => exact False.elim hq'
end
end L2.Vf
/-! try .. except X as n, whose suite raises. -/
namespace L2.Vf
open PySem PySem.Spec PyProof.Rows HotX
theorem tracedZ_same {h h' base : Heap} {e L : Addr} {Z : Obj → Prop} {fl : Value} {m : Str → Option Value} (x : HandSPX.TracedZ h base e Z fl) (hn : h.Ns L m) (hs : Heap.SameBut L h h') : HandSPX.TracedZ h' base e Z fl := by
  obtain ⟨oe, vs, T, oT, ts, he, hz, hd, h1, hnT, hTe, hT, hdT, h3⟩ := x
  obtain ⟨oL, es, ep, hoL, hdL, _⟩ := hn
  have neE : e ≠ L := fun q => by
    rw [q, hoL] at he
    have z := Option.some.inj he
    rw [← z, hdL] at hd
    cases hd
  have neT : T ≠ L := fun q => by
    rw [q, hoL] at hT
    have z := Option.some.inj hT
    rw [← z, hdL] at hdT
    cases hdT
  exact ⟨oe, vs, T, oT, ts, (hs.2 e neE).trans he, hz, hd, h1, hnT, hTe, (hs.2 T neT).trans hT, hdT, h3⟩
section
variable {X : Cx} {pins : List (Addr × Obj)} {σ : L2.St} {H : Hp} {s : Shared}
/-- the state behind the name's going -/
theorem inv_gone {i : Nat} {n : Str} {m : Str → Option Value} {h' : Heap} {t' : Nat} {v : Option Value} (I : Inv X pins σ H s) (hN : X.N.Nodup) (hi : X.N[i]? = some n) (hn : s.heap.Ns X.env.locals m)
    (hlk : ∀ (i : Nat) (x : Str) (v : V), X.N[i]? = some x → σ[i]? = some (some v) → Vis X.env.scope x → ∃ u, RelV v u ∧ Look X.env s.heap m x u)
    (hn' : h'.Ns X.env.locals (fun x => if x = n then v else m x)) (hs : Heap.SameBut X.env.locals s.heap h') : Inv X pins (σ.set i none) H { s with heap := h', toks := t' } := by
  obtain ⟨oL, _, _, hoL, _⟩ := id hn
  have neL : ∀ b o, X.s_0.heap.get? b = some o → b ≠ X.env.locals := fun b o e => Nat.ne_of_lt (Nat.lt_of_lt_of_le (Heap.lt_size e) I.ok.above)
  refine ⟨I.ok, I.os, I.bare, ⟨fun b o e n hb hx => ?_, fun b o e n hb hx => ?_, I.base.free, fun b o e hx => ?_, I.base.tups, I.base.frzs, I.base.tbls⟩, ⟨_, hn', fun j y v' e1 e2 e3 => ?_⟩, fun y c e => ?_, I.free, I.freeC, fun p hp => ?_, fun b ob e => ?_, by simpa using I.len⟩
  · exact (hs.2 b (neL b o e)).trans (I.base.keep b o e n hb hx)
  · obtain ⟨sl, e1⟩ := I.base.slot b o e n hb hx
    exact ⟨sl, (hs.2 b (neL b o e)).trans e1⟩
  · obtain ⟨o', e1⟩ := I.base.there b o e hx
    exact ⟨o', (hs.2 b (neL b o e)).trans e1⟩
  · by_cases hj : j = i
    · subst hj
      by_cases hlt : j < σ.length
      · rw [List.getElem?_set_self hlt] at e2; cases e2
      · rw [List.getElem?_eq_none (by simpa using hlt)] at e2; cases e2
    · rw [List.getElem?_set_ne (Ne.symm hj)] at e2
      obtain ⟨u', r', q⟩ := hlk j y v' e1 e2 e3
      refine ⟨u', r', ?_⟩
      rcases q with ⟨k, e⟩ | ⟨k, c, e, z⟩
      · have ny : y ≠ n := fun e => hj (nodup_ix hN e1 (e ▸ hi))
        exact .inl ⟨k, (if_neg ny).trans e⟩
      · exact .inr ⟨k, c, e, z.sameBut hs (I.cne y c e)⟩
  · obtain ⟨w', z⟩ := I.cell y c e
    exact ⟨w', z.sameBut hs (I.cne y c e)⟩
  · obtain ⟨e, n, ne, nf, d⟩ := I.pin p hp
    exact ⟨(hs.2 p.1 ne).trans e, n, ne, nf, d⟩
  · refine (I.hok b ob e).stay (fun c w' hc q => (hs.2 c ?_).trans q) (fun _ q => q) fun _ _ q => q
    intro z
    subst z
    rcases hc with hc | hc
    · rw [← hc, I.free] at e; cases e
    · rw [I.free] at hc; cases hc
end
/-- the context of a named except suite that may raise -/
abbrev suiteA (X : Cx) (a : Addr) (pn : List (Addr × Obj)) (xe : Value → Shared → Prop) : Cx := { X with A := X.A.mark (some (.ref a)), calm := false, pn := pn, xe := xe }
/-- what leaves the suite: the name is gone -/
def wSuite (i : Nat) (Wout : WX) : WX := fun cls d σ H => Wout cls d (σ.set i none) H
section
variable {X : Cx} {x n : Str} {c : Value} {i : Nat} {body suite : List Stmt} {b₀ : Stmt} {np pos pos' : Pos} {tb : WX → TS} {ts : Addr → Value → Option Addr → TS} {Wout : WX}
theorem ps_try_asX (hs : X.stack = X.env :: X.outer) (hf : X.env.frame = some X.env.locals) (hN : X.N.Nodup) (hi : X.N[i]? = some n) (hln : X.env.kindOf n = some .local) (hc : Names X x c) (hpa : ∀ hd : Option Value, PassesOwnAt (model X.prog X.w) (X.A.mark hd) X.A X.env X.xe) (tk : L2.Takes X Wout)
    (hb : ∀ (W : WX) (pn : List (Addr × Obj)) (xe : Value → Shared → Prop), L2N.Takes (X.tr pn xe) W → PassesOwn (model X.prog X.w) X.A X.env xe → PSs (X.tr pn xe) body (tb W))
    (hsu : ∀ (a : Addr) (oe : Obj) (cls : Value) (d : Option Addr) (pn : List (Addr × Obj)) (xe : Value → Shared → Prop), L2N.Zn cls d oe → (∃ vs, oe.data = .fields vs) → L2.Takes (suiteA X a ((a, oe) :: pn) xe) (wSuite i Wout) → L2H.HotC (suiteA X a ((a, oe) :: pn) xe) →
      PSs (suiteA X a ((a, oe) :: pn) xe) (b₀ :: suite) (ts a cls d)) :
    PS X (.Try body [.ExceptHandler (some (.Name x np)) (some n) (b₀ :: suite) pos'] [] [] pos) (fun D σ H => tb (wAs X.K c i ts Wout D) D σ H) := by
  refine ⟨fun pins s σ H D I h => ?_⟩
  have ok := I.ok
  have hfr : X.A.frames = some (X.env :: X.outer) := by rw [ok.frames, hs]
  have hloc : Loc X.env.scope n := .inl hln
  have notFr : ∀ {B h : Heap} {a : Addr} {o : Obj} {vs : Array Value}, h.FunFrames B (X.env :: X.outer) → h.get? a = some o → o.data = .fields vs → a ∉ frs (X.env :: X.outer) := fun {B h a o vs} ff e dd hm => by
    obtain ⟨_, o', e', hnf⟩ := ff.mem hm
    rw [e] at e'; cases e'
    exact hnf _ dd
  refine wpAny_Try_except ?_
  refine wpAny_mono ((hb (wAs X.K c i ts Wout D) (X.pn ++ pins) (fun e s₁ => wpAny (model X.prog X.w) X.A (noteFrame e X.env) (fun _ s₂ => wpAny (model X.prog X.w) X.A (setFlight e none) (fun _ s₃ =>
    wpAny (model X.prog X.w) X.A (handleBy e X.env [.ExceptHandler (some (.Name x np)) (some n) (b₀ :: suite) pos']) (SP X pins D) X.xe s₃) X.xe s₂) X.xe s₁) (fun u s' xx => ?_) PassesOwn.looking).run [] s σ H D (I.toTry _) h) (fun f s1 hsp => ?_) (fun e s1 he => he)
  · obtain ⟨a, B, sI, pins', σ', H', cls, d, rfl, J', nb, up, sky, na, os, ag, b, hb1, hyes, hno⟩ := xx
    have J : Inv X pins σ' H' sI := J'.ofTry ok
    have sky' : L2.Sky B (X.env :: X.outer) a (L2N.Zn cls d) X.env.locals s'.heap := by rw [← hs]; exact sky
    show wpAny (model X.prog X.w) X.A (noteFrame (.ref a) X.env) _ _ _
    refine L2N.Sky.land L2N.Zn.steady hfr hf sky' fun h3 fl3 up3 => ?_
    have J3 : Inv X pins σ' H' { s' with heap := h3 } := J.landed nb fl3.1 (up.trans up3) os ag
    obtain ⟨oe3, vs3, he3, hz3, hd3⟩ := fl3.there
    have nfr : a ∉ frs (X.env :: X.outer) := notFr fl3.2.2.1 he3 hd3
    have nL : a ≠ X.env.locals := fun z => nfr (List.mem_filterMap.mpr ⟨X.env, List.mem_cons_self, by rw [hf, z]⟩)
    have nF : a ∉ X.fs := fun hm => by
      obtain ⟨e, he, q⟩ := List.mem_filterMap.mp hm
      exact nfr (List.mem_filterMap.mpr ⟨e, List.mem_cons_of_mem _ he, q⟩)
    have S3 := J3.suite he3 hd3 na nL nF
    refine wpAny_handleBy_cons (codeAny_handlers_test ?_) (by intro q; cases q)
    have LT : PySem.W.Looks (model X.prog X.w) h3 (typeOf (.ref a)) cls := fun A Q E s k q => wpAny_typeOf_ref (k _ _ he3) (by rw [hz3.1]; exact q)
    have LM := PySem.W.exm_one (M := model X.prog X.w) (J3.kIn) LT hb1
    have test : ∀ {Q : Value → Shared → Prop} {E : Value → Shared → Prop}, Q c { s' with heap := h3 } → wpAny (model X.prog X.w) (X.A.mark (some (.ref a))) (eval (.Name x np) X.env) Q E { s' with heap := h3 } := fun {Q E} q => by
      obtain ⟨hg, hdbg, hm | ⟨hm, hv, hnn⟩⟩ := hc
      · exact ld_glob (X := X.suite a ((a, oe3) :: (X.pn ++ pins))) S3 hg hm q hdbg
      · exact ld_blt (X := X.suite a ((a, oe3) :: (X.pn ++ pins))) S3 hg hm hv q hnn hdbg
    refine test (LM.here ?_)
    cases b with
    | true =>
      refine codeAny_handlers_suite_as ?_
      refine HandSPX.lands_againZ fl3 fun h4 fl4 up4 => ?_
      have J4 : Inv X pins σ' H' { s' with heap := h4 } := J.landed nb fl4.1 ((up.trans up3).trans up4) os ag
      obtain ⟨oe4, vs4, he4, hz4, hd4⟩ := fl4.there
      have S4 := J4.suite he4 hd4 na nL nF
      refine store_ok (X := X.suite a ((a, oe4) :: (X.pn ++ pins))) (v := .ref a) S4 hN hi hloc rfl (fun s5 S5 => ?_) (.inr hln)
      have hot : L2H.HotC (suiteA X a ((a, oe4) :: (X.pn ++ pins)) (L2.XE (X.suite a ((a, oe4) :: (X.pn ++ pins))) (wSuite i Wout))) := ⟨(a, oe4), ⟨rfl, vs4, hd4, hz4.2.2 vs4 hd4⟩, List.mem_cons_self⟩
      have tkS : L2.Takes (suiteA X a ((a, oe4) :: (X.pn ++ pins)) (L2.XE (X.suite a ((a, oe4) :: (X.pn ++ pins))) (wSuite i Wout))) (wSuite i Wout) := fun u2 s2 x2 => by
        obtain ⟨a2, B2, sI2, pn2, σ2, H2, cls2, d2, e2, I2, nb2, up2, sky2, na2, os2, ag2, w2⟩ := x2
        exact ⟨a2, B2, sI2, pn2, σ2, H2, cls2, d2, e2, Inv.wish (X := suiteA X a ((a, oe4) :: (X.pn ++ pins)) (L2.XE (X.suite a ((a, oe4) :: (X.pn ++ pins))) (wSuite i Wout))) I2 (fun _ _ => False), nb2, up2, sky2, na2, os2, ag2, w2⟩
      have S5' : Inv (suiteA X a ((a, oe4) :: (X.pn ++ pins)) (L2.XE (X.suite a ((a, oe4) :: (X.pn ++ pins))) (wSuite i Wout))) [] _ H' s5 := Inv.wish (X := X.suite a ((a, oe4) :: (X.pn ++ pins))) S5 _
      refine wpAny_mono ((hsu a oe4 cls d (X.pn ++ pins) _ hz4 ⟨_, hd4⟩ tkS hot).run [] s5 _ H' _ S5' (hyes rfl a na)) (fun f s6 hsp => ?_) (fun u6 s6 xx6 => ?_)
      · have end_ : ∀ {σ6 : St} {H6 : Hp} {Q : Shared → Prop}, Inv (suiteA X a ((a, oe4) :: (X.pn ++ pins)) (L2.XE (X.suite a ((a, oe4) :: (X.pn ++ pins))) (wSuite i Wout))) [] σ6 H6 s6 → (∀ s7, Inv X pins (σ6.set i none) H6 s7 → Q s7) →
            wpAny (model X.prog X.w) X.A (do bindName X.env n .none; unbindBehindTheSuite X.env n pos') (fun _ s7 => Q s7) X.xe s6 := fun {σ6 H6 Q} S6 hq =>
          gone_ok ((show Inv (X.suite a ((a, oe4) :: (X.pn ++ pins))) [] σ6 H6 s6 from Inv.unwish (X := X.suite a ((a, oe4) :: (X.pn ++ pins))) (E := L2.XE (X.suite a ((a, oe4) :: (X.pn ++ pins))) (wSuite i Wout)) S6).unsuite ok) hN hi hln hq
        cases f with
        | next =>
          obtain ⟨σ6, H6, S6, q6⟩ := hsp
          exact end_ S6 fun s7 J7 => ⟨_, _, J7, q6⟩
        | brk =>
          obtain ⟨σ6, H6, S6, q6⟩ := hsp
          exact end_ S6 fun s7 J7 => ⟨_, _, J7, q6⟩
        | cont =>
          obtain ⟨σ6, H6, S6, q6⟩ := hsp
          exact end_ S6 fun s7 J7 => ⟨_, _, J7, q6⟩
        | ret u =>
          obtain ⟨v6, σ6, H6, S6, r6, q6⟩ := hsp
          exact end_ S6 fun s7 J7 => ⟨_, _, _, J7, r6, q6⟩
      · -- the suite raised
        obtain ⟨a2, B2, sI2, pn2, σ2, H2, cls2, d2, e2, I2, nb2, up2, sky2, na2, os2, ag2, w2⟩ := xx6
        subst e2
        have K2 : Inv X pins σ2 H2 sI2 := I2.unsuite ok
        have sky2' : L2.Sky B2 (X.env :: X.outer) a2 (L2.Zc cls2 d2) X.env.locals s6.heap := by rw [← hs]; exact sky2
        have hfrM : (X.A.mark (some (.ref a))).frames = some (X.env :: X.outer) := hfr
        have behind : ∀ h1, HandSPX.HeldZ B2 (X.env :: X.outer) a2 (L2.Zc cls2 d2) X.env.locals h1 → s6.heap.UpToSlots h1 →
            wpAny (model X.prog X.w) (X.A.mark (some (.ref a))) (do bindName X.env n .none; unbindBehindTheSuite X.env n pos')
              (fun _ s₄ => wpAny (model X.prog X.w) (X.A.mark (some (.ref a))) (passOn "try.except-as" (.ref a2) X.env : Sem Flow) (fun _ _ => False) (notedBy (model X.prog X.w) (X.A.mark (some (.ref a))) X.env (cameBackBy (model X.prog X.w) X.A X.env X.xe)) s₄)
              (fun y s₄ => wpAny (model X.prog X.w) (X.A.mark (some (.ref a))) (setFlight (.ref a2) none) (fun _ s₅ => notedBy (model X.prog X.w) (X.A.mark (some (.ref a))) X.env (cameBackBy (model X.prog X.w) X.A X.env X.xe) y s₅) (notedBy (model X.prog X.w) (X.A.mark (some (.ref a))) X.env (cameBackBy (model X.prog X.w) X.A X.env X.xe)) s₄) { s6 with heap := h1 } := by
          intro h1 hh1 up1
          have J1 : Inv X pins σ2 H2 { s6 with heap := h1 } := K2.landed nb2 hh1.1 (up2.trans up1) os2 ag2
          obtain ⟨m, hn, hlk⟩ := id K2.loc
          obtain ⟨oL, es, ep, hoL, hdL, hkL, hmL⟩ := id hn
          have hnfL : ∀ vs, oL.data ≠ .fields vs := fun vs z => by rw [hdL] at z; cases z
          obtain ⟨slL, hoL1⟩ := (up2.trans up1) _ _ hoL hnfL
          have hn1 : h1.Ns X.env.locals m := ⟨_, es, ep, hoL1, hdL, hkL, hmL⟩
          have hcls : (X.env.scope.kind == .class || (X.env.scope.kind == .module && X.env.locals != X.env.globals)) = false := by rw [ok.kind]; rfl
          refine wpAny_nameGoes_keeps hln hn1 hcls fun h2 v hn2 hs2 => ?_
          obtain ⟨f1, f2, f3, f4⟩ := hh1
          have hbL : B2.get? X.env.locals = none := by
            obtain ⟨_, ⟨L', _, hf', hb', _⟩, _⟩ := f3
            rw [hf] at hf'
            rw [Option.some.inj hf']
            exact hb'
          have g1 : B2.StaysIn h2 := fun b o hb => (hs2.2 b fun q => by rw [q, hbL] at hb; cases hb).trans (f1 b o hb)
          have g3 : h2.FunFrames B2 (X.env :: X.outer) := Heap.FunFrames.sameBut hs2 hn2 f3
          have g4 := tracedZ_same f4 hn1 hs2
          obtain ⟨o2, es2, ep2, ho2, hd2, hk2, hm2⟩ := id hn2
          -- the ghost
          have gh : (sI2.heap.update X.env.locals (fun _ => o2)).get? X.env.locals = some o2 := Heap.get?_update_self _ hoL (by obtain ⟨cl, dc, dt, sl⟩ := o2; cases hd2; rfl)
          have hsI : Heap.SameBut X.env.locals sI2.heap (sI2.heap.update X.env.locals (fun _ => o2)) := Heap.SameBut.update ..
          have KI : Inv X pins (σ2.set i none) H2 { sI2 with heap := sI2.heap.update X.env.locals (fun _ => o2), toks := sI2.toks } := inv_gone (v := v) K2 hN hi hn hlk ⟨o2, es2, ep2, gh, hd2, hk2, hm2⟩ hsI
          have nf2 : ∀ vs, o2.data ≠ .fields vs := fun vs z => by rw [hd2] at z; cases z
          obtain ⟨oe, vs, T, oT, ts', he, hz, hd, h1', r⟩ := id g4
          unfold PySem.passOn
          refine wpAny_bind (wpAny_field he hd h1' ?_)
          rw [if_neg (show ¬ ((Value.ref T == Value.none) = true) from by simp)]
          rw [hf]
          refine wpAny_bind (HandSPX.setFlight_onZ (base := B2) (l := X.env :: X.outer) (Z := L2.Zc cls2 d2) ⟨g1, f2, g3, g4⟩ fun h5 hh5 up5 => wpAny_throw ?_)
          refine hpa _ _ _ (tk _ _ ?_)
          refine ⟨a2, B2, _, pins, σ2.set i none, H2, cls2, d2, rfl, KI, fun b o e hb => ?_, fun b o e hnf => ?_, .inr (.inr (by rw [hs]; exact hh5)), na2, os2, ag2, w2⟩
          · have nb' : b ≠ X.env.locals := fun z => hb (by rw [hs]; exact List.mem_filterMap.mpr ⟨X.env, List.mem_cons_self, by rw [hf, z]⟩)
            exact nb2 b o ((hsI.2 b nb').symm.trans e) hb
          · by_cases z : b = X.env.locals
            · subst z
              have e' : (sI2.heap.update X.env.locals (fun _ => o2)).get? X.env.locals = some o := e
              rw [gh] at e'
              obtain rfl := Option.some.inj e'
              exact up5 _ _ ho2 hnf
            · obtain ⟨sl, e6⟩ := (up2.trans up1) b o ((hsI.2 b z).symm.trans e) hnf
              exact up5 b { o with slots := sl } ((hs2.2 b z).trans e6) hnf
        show wpAny (model X.prog X.w) (X.A.mark (some (.ref a))) (noteFrame (.ref a2) X.env) _ _ _
        rcases sky2' with ⟨hB, hn, hl, oe, vs, he, hz, hd, h1⟩ | fl | hh
        · exact HandSPX.look_newZ L2.Zc.steady hfrM hl hf he hB hn hd h1 hz behind
        · exact HandSPX.looks_onZ L2.Zc.steady hfrM hf fl behind
        · exact HandSPX.againZ hf hh.2.2.2 (behind s6.heap hh (Heap.UpToSlots.refl _))
    | false =>
      show wpAny _ X.A (handleBy (.ref a) X.env []) _ _ _
      refine wpAny_handleBy_nil ?_
      obtain ⟨k1, k2, k3, oe, vs, T, oT, ts', he, hz, hd, h1, hr⟩ := id fl3
      unfold PySem.passOn
      refine wpAny_bind (wpAny_field he hd h1 ?_)
      rw [if_neg (show ¬ ((Value.ref T == Value.none) = true) from by simp)]
      have fin : wpAny (model X.prog X.w) X.A (setFlight (.ref a) X.env.frame) (fun _ s4 => wpAny (model X.prog X.w) X.A (throw (.ref a) : Sem Flow) (SP X pins D) X.xe s4) X.xe { s' with heap := h3 } := by
        rw [hf]
        refine HandSPX.setFlight_upZ (L2H.flyingZ_imp (fun o z => L2N.Zn.zc z) fl3) fun h4 hh4 up4 => wpAny_throw (tk _ _ ?_)
        exact ⟨a, B, sI, pins, σ', H', cls, d, rfl, J, nb, (up.trans up3).trans up4, .inr (.inr (by rw [hs]; exact hh4)), na, os, ag, hno rfl⟩
      first
        | exact wpAny_bind (wpAny_pure (wpAny_bind fin))
        | exact wpAny_bind fin
  · cases f with
    | next =>
      obtain ⟨σ', H', J', q⟩ := hsp
      exact wpAny_execs_nil ⟨σ', H', J'.ofTry ok, q⟩
    | brk =>
      obtain ⟨σ', H', J', q⟩ := hsp
      exact ⟨σ', H', J'.ofTry ok, q⟩
    | cont =>
      obtain ⟨σ', H', J', q⟩ := hsp
      exact ⟨σ', H', J'.ofTry ok, q⟩
    | ret u =>
      obtain ⟨v, σ', H', J', r, q⟩ := hsp
      exact ⟨v, σ', H', J'.ofTry ok, r, q⟩
end
end L2.Vf
/-! Exceptions whose context is None, raised by calls of classes with their own __init__; the built-in base's __init__. -/
namespace L2.Vf
open PySem PySem.Spec PyProof.Rows
abbrev veL : List Value := [.type "ValueError", .type "Exception", .type "BaseException", .type "object"]
abbrev leL : List Value := [.type "LookupError", .type "Exception", .type "BaseException", .type "object"]
abbrev exL : List Value := [.type "Exception", .type "BaseException", .type "object"]
theorem tlEX : VfX.Tl exL := ⟨fun s => F.store_Exception.passes s, by decide +kernel, by decide⟩
theorem typ_EX : typeOf (.type "Exception") = pure (.type "type") := by kernel_rfl
section
variable {P : Program} {w : World} {K : PySem.W.Frag} {mg : Str → Option Value} {base : Heap}
/-- as Fun.ok, for a def that may raise (context None) -/
theorem okN {x qual : Str} {st : Stmt} {f : Addr} {fd : FuncData} {N ps : List Str} {k : Nat} {sp : Sp} (F : Fun K x qual st f fd) (S : FnScope N ps (defScope st)) (len : ∀ vs H Q E, sp vs H Q E → vs.length = ps.length)
    (hbody : ∀ (cdv : Value) (A : Around) (outer : List Env) (s : Shared) (H : Hp) (vs : List V) (Q : VK) (E : XK), Room k (A.deeper (envOfC qual (defScope st) s.heap.objs.size f cdv)) → sp vs H Q E →
      ∃ t, PSs (cxOf (L2N.CX P w) P w K mg base N qual (defScope st) f cdv A outer s H E) (defBody st) t ∧ t { nx := fun _ H' => Q .non H', rt := Q } (start N vs) H) : FnOk P w K mg base (L2N.CX P w) (k + 1) f fd ps sp := by
  obtain ⟨oc, od, kV, doc, pm, an, cdv, ct, osl, rfl, lk, hcd⟩ := F.ex
  exact fn_of lk hcd S len fun A outer s H vs Q E hr hsp => hbody cdv A outer s H vs Q E hr hsp
/-- as Fun.ok, for a def called while an exception is handled -/
theorem okH {x qual : Str} {st : Stmt} {f : Addr} {fd : FuncData} {N ps : List Str} {k : Nat} {sp : Sp} (F : Fun K x qual st f fd) (S : FnScope N ps (defScope st)) (len : ∀ vs H Q E, sp vs H Q E → vs.length = ps.length)
    (hbody : ∀ (cdv : Value) (A : Around) (outer : List Env) (s : Shared) (H : Hp) (vs : List V) (Q : VK) (E : XK) (p : Addr × Obj), L2H.Hot1 A p → L2H.RoomH k (A.deeper (envOfC qual (defScope st) s.heap.objs.size f cdv)) → sp vs H Q E →
      ∃ t, PSs (L2H.cxH CX0 P w K mg base N qual (defScope st) f cdv A outer s H E p).nox (defBody st) t ∧ t { nx := fun _ H' => Q .non H', rt := Q } (start N vs) H) : L2H.FnH P w K mg base CX0 (k + 1) f fd ps sp := by
  obtain ⟨oc, od, kV, doc, pm, an, cdv, ct, osl, rfl, lk, hcd⟩ := F.ex
  refine L2H.fn_ofH lk hcd S len fun A outer s H vs Q E p hot hr hsp => ?_
  obtain ⟨t, h, q⟩ := hbody cdv A outer s H vs Q E p hot hr hsp
  exact ⟨t, h.nox, q⟩
end
section
variable {X : Cx} {C : Addr} {tl : List Value} {B newId initId : String} {e : Expr} {es : List Expr} {ta : TA} {p p1 p2 pos : Pos}
/-- Exception.__init__(self, ..) -/
theorem pe_exinit {pl : Sem Bool} (hg : Gl X "Exception") (hm : X.mg "Exception" = none) (ha : PA X (e :: es) ta)
    (hc : eval (.Call (.Attribute (.Name "Exception" p1) "__init__" p2) (e :: es) [] pos) X.env = (do
      let ov ← eval (.Name "Exception" p1) X.env
      standAt p2.atName
      let (f, first) ← holding [ov] (getMethod ov "__init__" pl)
      callWith pos f first (backTo pos (starEach (e :: es) X.env)) (backToKw pos (keywordEach [] X.env))) := by rfl)
    (he : starEach (e :: es) X.env = (false, eval e X.env) :: starEach es X.env := by rfl) (hpl : (backTo pos (starEach es X.env)).any (·.1) = false := by rfl) :
    PE X (.Call (.Attribute (.Name "Exception" p1) "__init__" p2) (e :: es) [] pos) (tBaseI X.K exL "Exception.__new__" ta) := by
  refine ⟨fun pins s σ H Q I h => ?_⟩
  refine PySem.W.methodCall_KW (ld_blt I hg hm PyProof.Rows.Boot.«Exception» ?_ (by decide) (by decide)) hc
  obtain ⟨m, fr⟩ := I.fr
  have vV : PySem.W.findCls X.K (.type "Exception") (.type "type") "__init__" = some (.val (.builtin "Exception.__init__")) := by kernel_rfl
  refine PySem.W.method_type fr I.ok.mod.kin typ_EX (by decide +kernel) vV (by decide +kernel) ?_
  show wpAny _ _ (callWith pos (Value.builtin "Exception.__init__") [] (backTo pos (starEach (e :: es) X.env)) []) _ _ _
  refine PyProof.Rows.callWith_method1 (thn (ha.run pos pins _ σ H _ (I.tok _) h) fun us s1 ⟨vs, H1, I1, r1, a, C, ws, ev, hl, W, ea, q⟩ => ?_) he hpl
  subst ev
  cases r1 with
  | @cons _ u0 _ ur ra rw' =>
    obtain rfl : u0 = Value.ref a := ra
    have hlen : ur.length ≤ sizeLine := by
      rw [← Paired.length rw', sizeLine_eq]
      omega
    exact base_init F.excBase_Exception W I1 ea hlen fun s' J => ⟨.non, H1, J, rfl, q⟩
theorem pmk_xN {CX : CXT} {x : Str} {fI : Addr} {k : Nat} {fd : FuncData} {ps : List Str} {sp : Sp} (F : ExcBaseFacts B newId initId tl) (W : Xcl X.K C tl newId) (rz : Raises X (.ref C)) (iC : PySem.W.findIn X.K (.ref C) "__init__" = some (some (.ref fI)))
    (tI : PySem.W.typeIn X.K (.ref fI) = some (.type "function")) (F1 : FnOk X.prog X.w X.K X.mg X.base CX k fI fd ps sp) (hr : Room (k + 1) X.A) (hb : Binds X.K fd ps []) (hx : Passes CX X (fun _ _ _ => False)) (hg : Gl X x) (hm : X.mg x = some (.ref C)) (ha : PA X (e :: es) ta)
    (hdb : (x == ("__debug__" : Str)) = false := by decide) (he : starEach (e :: es) X.env = (false, eval e X.env) :: starEach es X.env := by rfl) (hpl : (backTo pos (starEach es X.env)).any (·.1) = false := by rfl) :
    L2N.PMk X (.Call (.Name x p) (e :: es) [] pos) (tMkX C sp ta) := by
  intro pins s σ H Q I h
  obtain ⟨nm, q, N, bs, bm, sn, sub, ab, col, dd, k0, k1, k2, k3, k5, hC, hbm⟩ := W.cls
  refine wpAny_Call_Name_kw (ld_glob I hg hm ?_ hdb)
  refine PySem.W.callWith_K (h₀ := X.base) I.ok.mod.kin W.kp (thn (ha.run pos pins s σ H _ I h) fun us s1 ⟨vs, H1, I1, r1, hz, q1⟩ => ⟨I1.kIn, ?_⟩) he hpl
  show wpAny _ _ (call (.ref C) us) _ _ _
  obtain ⟨hp, g, dr, tk, os⟩ := s1
  have big : hp.objs.size ≤ hp.objs.size + 1 := Nat.le_succ _
  have hq := q1 (hp.objs.size + 1) (I1.hok.fresh big)
  have grown : ∀ b o, hp.get? b = some o → ((hp.push (PySem.W.kdv_tup us)).push (PySem.HandSPX.excO C hp.objs.size)).get? b = some o :=
    fun b o z => Heap.get?_push_of_some _ (Heap.get?_push_of_some _ z)
  have here : ((hp.push (PySem.W.kdv_tup us)).push (PySem.HandSPX.excO C hp.objs.size)).get? (hp.objs.size + 1) = some (PySem.HandSPX.excO C hp.objs.size) := by heap_get
  have I2 := I1.laid (t' := tk) (a := hp.objs.size + 1) (o := exo (hp.objs.size + 1) C none)
    (h' := (hp.push (PySem.W.kdv_tup us)).push (PySem.HandSPX.excO C hp.objs.size)) grown big (exo_ok here)
  have r2 : Vals (V.ref (hp.objs.size + 1) :: vs) (Value.ref (hp.objs.size + 1) :: us) := .cons rfl r1
  have hl : (Value.ref (hp.objs.size + 1) :: us).length = ps.length := by
    have z := r2.length
    rw [F1.len _ _ _ _ hq] at z
    exact z.symm
  have hus : us.length ≤ sizeLine := by
    rw [← Paired.length r1, sizeLine_eq]
    omega
  have hbind := hb _ (Value.ref (hp.objs.size + 1) :: us) I2.kIn (by rw [List.append_nil]; exact hl)
  rw [List.append_nil] at hbind
  refine wpAny_call (PySem.HandSPX.call_own F (fun Y => VfX.refsT_has Y bm hbm) (I1.kIn _ _ hC) (PySem.W.looks_findIn I1.kIn iC)
    (fun self => PySem.W.bind_fn I1.kIn self tI) hus
    (codeAny_mono (F1.run _ X.stack _ _ ⟨Value.ref (hp.objs.size + 1) :: us, []⟩ (Value.ref (hp.objs.size + 1) :: us) _ _ (fun _ _ _ => False)
      (hr.make C us []) (I2.env0.make C us []) hbind r2 hq) fun r s' hq' => ?_))
  cases r with
  | error er => exact hx pins σ _ _ er s' I2 hq'
  | ok fl =>
    cases fl with
    | ret u =>
      obtain ⟨v, H2, os2, bare2, un2, hok2, rv, ev, d, fs, ea, ed, hd1, q2⟩ := hq'
      subst ev
      obtain ⟨h2, g2, d2, t2, os'⟩ := s'
      obtain ⟨t0, G, J, kG, ge, hoe, na⟩ := mk_end0 (d2 := d2) (t2 := t2) I1 big grown un2 hok2 os2 bare2 ea ed hd1
      exact ⟨rv, ⟨hp.objs.size + 1, _, _, ⟨G, g2, d2, t2, os'⟩, _, .ref C, some d, rfl, J, kG, ge, hoe, ⟨rfl, rfl, fun vs hv => by cases hv; rfl⟩, rfl, rfl, na, rfl, bare2, rz, q2⟩⟩
    | next => exact False.elim hq'
    | brk => exact False.elim hq'
    | cont => exact False.elim hq'
/-- a field of the exception of a named clause, in a suite that may raise -/
theorem pe_xfA {a : Addr} {oe : Obj} {cls : Value} {d : Option Addr} {pn : List (Addr × Obj)} {xe : Value → Shared → Prop} {te : TE} {n : Str} (T : XfC X.K C) (hno : PySem.W.findIn X.K (.ref C) n = some none)
    (hz : Zc cls d oe) (hf : ∃ vs, oe.data = .fields vs) (he : PE (X.suite a ((a, oe) :: pn)) e te) (hb : attributeBase e n X.env (eval e X.env) = eval e X.env := by rfl) :
    PE (suiteA X a ((a, oe) :: pn) xe) (.Attribute e n pos) (tXf a cls d C n te) :=
  PE.nox (X := suiteA X a ((a, oe) :: pn) xe) (show PE (suiteA X a ((a, oe) :: pn) xe).nox (.Attribute e n pos) (tXf a cls d C n te) from pe_xf (X := X) T hno hz hf he hb)
end
end L2.Vf
/-! enumerate of an empty tuple. -/
namespace PySem
open Sem (wp)
open AutoSeq1 (wpAny_loadPart')
theorem meets_enumerate_newTup (l : Addr) (items : Array Value) (n : Nat) (dct : Option Addr) (sl : Array (Option Value)) :
    Meets (Builtin.«enumerate.__new__» ⟨[.type "enumerate", .ref l], []⟩) (fun _ R s => s.heap.get? l = some { cls := .type "tuple", dict := dct, data := .seq items n, slots := sl } ∧
      R (.ok (.ret (.ref (s.heap.push { cls := .type "tuple_iterator", data := .fields #[.ref l, .int 0 0] }).objs.size)))
        { s with heap := (s.heap.push { cls := .type "tuple_iterator", data := .fields #[.ref l, .int 0 0] }).push { cls := .type "enumerate", data := .fields #[.none, .bool false, .ref s.heap.objs.size, rawInt 0, .none, .none] } }) :=
  .of_wp fun prog w A R s h => by
    obtain ⟨hp, g, d, tk, os⟩ := s; obtain ⟨hl, h⟩ := h
    have hsub := sub_enumerate
    have hL : Heap.IsTuple (Shared.heap ⟨hp, g, d, tk, os⟩) l items := ⟨_, hl, rfl, n, rfl⟩
    wp_walk using wpAny_loadPart' hl
    refine wpAny_stack_any fun st => wpAny_pure ?_
    split
    · rename_i c _ _ _ _ _
      cases (c == Value.type "enumerate")
      · wp_walk using wpAny_loadPart' hl, wpAny_pyIter_tuple hL
        exact ⟨_, rfl, h⟩
      · wp_walk using wpAny_loadPart' hl, wpAny_pyIter_tuple hL
        exact ⟨_, rfl, h⟩
    · wp_walk using wpAny_loadPart' hl, wpAny_pyIter_tuple hL
      exact ⟨_, rfl, h⟩
section
variable {prog : Program} {w : World} {A : Around} {E : Value → Shared → Prop} {s : Shared}
theorem call_enumerate_tup {l : Addr} {items : Array Value} {Q : Value → Shared → Prop} (hL : s.heap.IsTuple l items)
    (h : ∀ h', IsEnum h' (s.heap.objs.size + 1) s.heap.objs.size 0 .none → h'.IsTupleIter s.heap.objs.size l 0 → h'.objs.size = s.heap.objs.size + 2 →
      (∀ b o, s.heap.get? b = some o → h'.get? b = some o) → Q (.ref (s.heap.objs.size + 1)) { s with heap := h' }) :
    wpAny (model prog w) A (call (.type "enumerate") [.ref l]) Q E s := by
  obtain ⟨⟨c, dct, dt, sl⟩, hl, hc, n, hd⟩ := hL
  replace hc : c = .type "tuple" := hc
  replace hd : dt = .seq items n := hd
  subst hc hd
  refine callType_new F.called_enumerate (by decide) (F.typeCall_enumerate_1 _) (F.newCall_enumerate_1 _) (fun obj => F.args_object_init_2 obj _) F.entry_enumerate_new
    (meets_enumerate_newTup l items n dct sl) ⟨hl, ?_⟩
  have hz : (s.heap.push { cls := .type "tuple_iterator", data := .fields #[.ref l, .int 0 0] }).objs.size = s.heap.objs.size + 1 := Heap.size_push ..
  show _ ∧ _
  rw [hz]
  have he : IsEnum ((s.heap.push { cls := .type "tuple_iterator", data := .fields #[.ref l, .int 0 0] }).push
      { cls := .type "enumerate", data := .fields #[.none, .bool false, .ref s.heap.objs.size, rawInt 0, .none, .none] }) (s.heap.objs.size + 1) s.heap.objs.size 0 .none := by
    have := Heap.get?_push_size (s.heap.push { cls := .type "tuple_iterator", data := .fields #[.ref l, .int 0 0] })
      (o := { cls := .type "enumerate", data := .fields #[.none, .bool false, .ref s.heap.objs.size, rawInt 0, .none, .none] }) rfl
    rw [hz] at this; exact this
  refine ⟨⟨_, he, rfl⟩, h _ he ⟨_, Heap.get?_push_of_some _ (Heap.get?_push_size _ rfl), rfl, rfl⟩ (by rw [Heap.size_push, hz]) fun b o x => Heap.get?_push_of_some _ (Heap.get?_push_of_some _ x)⟩
theorem wpAny_nextOf_tup_end {it l : Addr} {i : Nat} {items} {Q : Value → Shared → Prop} (hh : A.handled = none)
    (hit : s.heap.IsTupleIter it l i) (hl : s.heap.IsTuple l items) (hx : items[i]? = none)
    (hE : ∀ h' e, Heap.ExtBut it s.heap h' → (∃ o, h'.get? e = some o ∧ o.cls = .type "StopIteration") → E (.ref e) { s with heap := h' }) :
    wpAny (model prog w) A (Builtin.SmallTypes.nextOf (.ref it)) Q E s := by
  obtain ⟨o, ho, hc, hd⟩ := id hit
  obtain ⟨ol, hol, _, nl, hdl⟩ := hl
  unfold Builtin.SmallTypes.nextOf
  refine wpAny_bind (wpAny_callSpecial?_slot (name := Str.ofString "__next__") hit.typeIs F.slot_tuple_iterator_next
    (wpAny_call_entry F.slot_tuple_iterator_next hit.typeIs F.entry_tuple_iterator_next ?_ (F.args_tuple_iterator_next_1 _)))
  show wpAny _ _ (field (.ref it) 0 >>= _) _ _ s
  refine wpAny_bind (wpAny_field ho hd (x := .ref l) rfl ?_)
  show wpAny _ _ (if (Value.ref l == Value.none) = true then _ else _) _ _ s
  rw [if_neg (show ¬ ((Value.ref l == Value.none) = true) from Bool.false_ne_true)]
  show wpAny _ _ (field (.ref it) 1 >>= _) _ _ s
  refine wpAny_bind (wpAny_field ho hd (x := .int i 0) rfl ?_)
  show wpAny _ _ (seqItems? (.ref l) >>= _) _ _ s
  refine wpAny_bind (wpAny_seqItems hol hdl ?_)
  simp only [Int.toNat_natCast, hx]
  refine wpAny_bind (wpAny_rule (wpAny_bind (wpAny_setField ho hd (by simp) ?_)))
  show wpAny _ _ (newExc (.type "StopIteration") [] >>= _) _ _ _
  refine wpAny_bind ?_
  simp only [newExc, newTuple]
  refine wpAny_bind (wpAny_newObj_type ?_ (by size_fits))
  refine wpAny_bind (m := firstArgMember _ _) (wpAny_of_eq (a := Value.none) (by first | rfl | (simp only [firstArgMember]; rfl)) ?_)
  refine wpAny_newObj_type ?_ (by size_fits)
  simp only [raiseNew]
  refine wpAny_bind (wpAny_handled ?_)
  first | rw [show A.in1.handled = none from hh] | rw [hh]
  refine wpAny_bind (wpAny_pure (wpAny_throw ?_))
  exact hE _ _ (((Heap.SameBut.update ..).extBut.push _).push _) ⟨_, Heap.get?_push_size _ rfl, rfl⟩
theorem wpAny_pyNext_enumT_end {e it l : Addr} {i : Nat} {items : Array Value} {old : Value} {Q : Option Value → Shared → Prop} (hh : A.handled = none)
    (he : IsEnum s.heap e it i old) (hit : s.heap.IsTupleIter it l i) (hl : s.heap.IsTuple l items) (hx : items[i]? = none)
    (hQ : ∀ h', Heap.ExtBut it s.heap h' → Q none { s with heap := h' }) : wpAny (model prog w) A (pyNext (.ref e)) Q E s := by
  have hT : s.TypeIs (.ref e) "enumerate" := ⟨_, he, rfl⟩
  unfold pyNext
  refine wpAny_bind (wpAny_attempt (wpAny_callSpecial?_slot (name := Str.ofString "__next__") hT F.slot_enumerate_next
    (wpAny_call_entry F.slot_enumerate_next hT F.entry_enumerate_next ?_ (F.args_enumerate_next_1 _))))
  show wpAny _ _ (field (.ref e) 2 >>= _) _ _ _
  refine wpAny_bind (wpAny_field he rfl (x := .ref it) rfl ?_)
  refine wpAny_bind (wpAny_nextOf_tup_end hh hit hl hx fun h' x he' hx' => ?_)
  obtain ⟨o, ho, hc⟩ := hx'
  refine wpAny_bind (wpAny_isInstance (T := "StopIteration") (b := true) ⟨o, ho, hc⟩ isSubtype_stop ?_)
  exact wpAny_pure (hQ _ he')
end
end PySem
namespace L2.Vf
open PySem PySem.Spec PyProof.Rows
/-- nothing is walked -/
def It0 (K : PySem.W.Frag) (a : Addr) : It := ⟨fun _ _ => False, fun _ _ _ _ => False, fun i H => i = 0 ∧ SqT K H a []⟩
theorem turn_enum0 {P : Program} {w : World} {K : PySem.W.Frag} {elts : List Expr} {kk : Nat} {tpos : Pos} (a e it : Addr) :
    Turn P w K (.Tuple elts kk tpos) (It0 K a) [e, it] e (fun i h => (∃ old, IsEnum h e it ((i : Nat) : Int) old) ∧ h.IsTupleIter it a i ∧ e ≠ it) where
  mem := by simp
  obj := fun i h st b hb => by
    obtain ⟨⟨old, he⟩, ⟨o, ho, hc, hd⟩, _⟩ := st
    have e' : b = e ∨ b = it := by simpa using hb
    rcases e' with z | z
    · rw [z]; exact ⟨_, he, fun v q => nomatch q⟩
    · rw [z]; exact ⟨o, ho, fun v q => by rw [hd] at q; cases q⟩
  keep := fun i h h' st k => let ⟨⟨old, he⟩, hi, hne⟩ := st; ⟨⟨old, k e (by simp) _ he⟩, hi.at fun o q => k it (by simp) o q, hne⟩
  item := by
    intro X hP hw hK hc i pins s σ H E I hf st hg
    exact hg.elim
  done := by
    intro X hP hw hK hc i pins s σ H E I hf st hg
    subst hP hw hK
    obtain ⟨⟨old, he⟩, hit, hne⟩ := st
    obtain ⟨rfl, hq⟩ := hg
    obtain ⟨its, rv, p, hz⟩ := I.tuple hq
    cases rv
    obtain ⟨f0, f1, f2, f3, f4, f5⟩ := hf it (by simp)
    exact wpAny_pyNext_enumT_end (I.ok.hd hc) he hit (show s.heap.IsTuple a #[] from p) (by simp) fun h' eb => ⟨rfl, I.turned (t' := s.toks) (fun b o hb q => eb b o hb q) f0 f1 f3 f4 f5⟩
  self := fun A i s Q E st h => let ⟨⟨_, he⟩, _⟩ := st; wpAny_pyIter_enum he h
def iEnum0 (K : PySem.W.Frag) (ta : TA) : TI := fun σ H R => ta σ H fun vs H1 => ∃ a, vs = [.ref a] ∧ SqT K H1 a [] ∧ R (It0 K a) H1
theorem pi_enum0 {K : PySem.W.Frag} {X : Cx} {e : Expr} {ta : TA} {p pos tpos : Pos} {elts : List Expr} {kk : Nat} (hg : Gl X "enumerate") (hm : X.mg "enumerate" = none) (ha : PA X [e] ta) (hs : starEach [e] X.env = [(false, eval e X.env)] := by rfl) (hK : X.K = K := by rfl) :
    PI X (.Tuple elts kk tpos) (.Call (.Name "enumerate" p) [e] [] pos) (iEnum0 K ta) := by
  subst hK
  refine ⟨fun pins s σ H R I h => ?_⟩
  refine Call_ (ld_blt I hg hm boot_enumerate (PyProof.Rows.callWith_type1 (thn (ha.run pos pins s σ H _ I h) fun us s1 ⟨vs, H1, I1, r1, q1⟩ => ?_) hs rfl))
  obtain ⟨a, ex, hq, q⟩ := q1
  subst ex
  cases r1 with
  | cons r rr =>
    cases rr
    cases r
    obtain ⟨its, rv, p', hz⟩ := I1.tuple hq
    refine call_enumerate_tup (show s1.heap.IsTuple a its.toArray from p') fun h' he hit hsz hk => wpAny_pyIter_enum he ?_
    have I2 : Inv X pins σ H1 { s1 with heap := h' } := I1.kept (t' := s1.toks) hk
    refine ⟨s1.heap.objs.size + 1, [s1.heap.objs.size + 1, s1.heap.objs.size], _, _, H1, rfl, I2, turn_enum0 a (s1.heap.objs.size + 1) s1.heap.objs.size, ⟨⟨.none, he⟩, hit, Nat.succ_ne_self _⟩, fun b hb => ?_, q⟩
    have e' : b = s1.heap.objs.size + 1 ∨ b = s1.heap.objs.size := by simpa using hb
    have hle : s1.heap.objs.size ≤ b := by
      rcases e' with z | z
      · rw [z]; exact Nat.le_add_right _ _
      · rw [z]; exact Nat.le_refl _
    exact I1.fpOk hle (I1.hok.fresh hle)
end L2.Vf
/-! enumerate of a tuple, of a list or a tuple. -/
namespace L2.Vf
open PySem PySem.Spec PyProof.Rows
theorem turn_enumT {P : Program} {w : World} {K : PySem.W.Frag} {elts : List Expr} {kk : Nat} {tpos : Pos} (a e it : Addr) (xs : List V) :
    Turn P w K (.Tuple elts kk tpos) ⟨fun i H => i < xs.length ∧ SqT K H a xs, fun i H v H' => ∃ T x, v = .ref T ∧ H T = none ∧ H' = upd H T (.tup [.int (i : Nat), x]) ∧ xs[i]? = some x, fun i H => SqT K H a xs ∧ xs.length ≤ i⟩ [e, it] e
      (fun i h => (∃ old, IsEnum h e it ((i : Nat) : Int) old) ∧ h.IsTupleIter it a i ∧ e ≠ it) where
  mem := by simp
  obj := fun i h st b hb => by
    obtain ⟨⟨old, he⟩, ⟨o, ho, hc, hd⟩, _⟩ := st
    have e' : b = e ∨ b = it := by simpa using hb
    rcases e' with z | z
    · rw [z]; exact ⟨_, he, fun v q => nomatch q⟩
    · rw [z]; exact ⟨o, ho, fun v q => by rw [hd] at q; cases q⟩
  keep := fun i h h' st k => let ⟨⟨old, he⟩, hi, hne⟩ := st; ⟨⟨old, k e (by simp) _ he⟩, hi.at fun o q => k it (by simp) o q, hne⟩
  item := by
    intro X hP hw hK hc i pins s σ H E I hf st hg
    subst hP hw hK
    obtain ⟨⟨old, he⟩, hit, hne⟩ := st
    obtain ⟨hi, hq⟩ := hg
    obtain ⟨its, rv, p, hz⟩ := I.tuple hq
    obtain ⟨x, hx⟩ : ∃ x, xs[i]? = some x := ⟨_, List.getElem?_eq_getElem hi⟩
    obtain ⟨u, hu, ru⟩ := rv.get hx
    have hel : e < s.heap.objs.size := Heap.lt_size he
    have hil : it < s.heap.objs.size := by obtain ⟨_, q, _⟩ := hit; exact Heap.lt_size q
    have hai : a ≠ it := fun z => by
      obtain ⟨o1, h1, c1, d1⟩ := hit
      obtain ⟨o2, h2, c2, _⟩ := id p
      rw [z, h1] at h2
      cases h2
      rw [c1] at c2
      exact absurd (Value.type.inj c2) (by decide)
    have hae : e ≠ a := fun z => by
      obtain ⟨o2, h2, c2, _⟩ := id p
      have h1 : s.heap.get? e = _ := he
      rw [z, h2] at h1
      rw [Option.some.inj h1] at c2
      exact absurd (Value.type.inj c2) (by decide)
    have li : i < its.toArray.size := by have := rv.length; simp; omega
    refine wpAny_pyNext_enum_itemD (Draws.tuple (A := X.A.in1) (show X.A.in1.handled = none from I.ok.hd hc) it a hai its.toArray) he ⟨hit, p⟩ li hne (by simp; exact ⟨hne, hae⟩) fun x' h' tk hpx ho hst' hT hsz hk => ?_
    obtain rfl : x' = u := by
      have hpx' : its.toArray[i]? = some x' := hpx
      rw [List.getElem?_toArray, hu] at hpx'
      exact (Option.some.inj hpx').symm
    obtain ⟨hit', p'⟩ := hst'
    refine ⟨_, rfl, wpAny_letOwnedTupleGo_enum (s := { s with heap := h', toks := tk + 1 }) ho fun h'' he' sb => ?_⟩
    have hT2 : h''.get? s.heap.objs.size = some { cls := .type "tuple", data := .seq #[.int i tk, x'] } := (sb.2 _ (Nat.ne_of_gt hel)).trans hT
    have new : ObjOk X.prog X.w (upd H s.heap.objs.size (.tup [.int (i : Nat), x])) h'' s.heap.objs.size (.tup [.int (i : Nat), x]) :=
      ⟨by show 2 ≤ sizeLine; decide, [.int i tk, x'], .cons ⟨_, rfl⟩ (.cons ru .nil), ⟨_, hT2, rfl, _, rfl⟩⟩
    have I1 : Inv X pins σ (upd H s.heap.objs.size (.tup [.int (i : Nat), x])) { s with heap := h'', toks := tk + 1 } :=
      I.turnedNew (ch := [e, it]) (fun b ob hb q => (sb.2 b (fun z => hb (by simp [z]))).trans (hk b ob (fun z => hb (by simp [z])) (fun z => hb (by simp [z])) q)) hf (Nat.le_refl _) new
    refine ⟨.ref s.heap.objs.size, _, I1, rfl, ⟨_, x, rfl, I.hok.fresh (Nat.le_refl _), rfl, hx⟩, ⟨⟨x', ?_⟩, hit'.at fun o q => (sb.2 it (Ne.symm hne)).trans q, hne⟩, fun b hb => ?_⟩
    · have e1 : ((i + 1 : Nat) : Int) = (i : Int) + 1 := by omega
      rw [e1]; exact he'
    · have hb' : b < s.heap.objs.size := by
        have e' : b = e ∨ b = it := by simpa using hb
        rcases e' with z | z
        · rw [z]; exact hel
        · rw [z]; exact hil
      rw [upd_ne (Nat.ne_of_lt hb')]
      exact (hf b hb).1
  done := by
    intro X hP hw hK hc i pins s σ H E I hf st hg
    subst hP hw hK
    obtain ⟨⟨old, he⟩, hit, hne⟩ := st
    obtain ⟨hq, hx⟩ := hg
    obtain ⟨its, rv, p, hz⟩ := I.tuple hq
    obtain ⟨f0, f1, f2, f3, f4, f5⟩ := hf it (by simp)
    have hl := rv.length
    exact wpAny_pyNext_enumT_end (I.ok.hd hc) he hit (show s.heap.IsTuple a its.toArray from p) (by simp; omega) fun h' eb => ⟨rfl, I.turned (t' := s.toks) (fun b o hb q => eb b o hb q) f0 f1 f3 f4 f5⟩
  self := fun A i s Q E st h => let ⟨⟨_, he⟩, _⟩ := st; wpAny_pyIter_enum he h
/-- enumerate of a list or a tuple -/
def ItE (K : PySem.W.Frag) (b : Bool) (a : Addr) (xs : List V) : It := match b with
  | true => Ite K a
  | false => ⟨fun i H => i < xs.length ∧ SqT K H a xs, fun i H v H' => ∃ T x, v = .ref T ∧ H T = none ∧ H' = upd H T (.tup [.int (i : Nat), x]) ∧ xs[i]? = some x, fun i H => SqT K H a xs ∧ xs.length ≤ i⟩
theorem walk_enumB {K : PySem.W.Frag} {b : Bool} {a : Addr} {xs : List V} : Walk (ItE K b a xs) xs.length (fun H => SqB K b H a xs) (YPair (fun i => some (.int (i : Nat))) (fun i => xs[i]?)) := by
  cases b
  · refine ⟨fun i _ hi q => ⟨hi, q⟩, fun _ q => ⟨q, Nat.le_refl _⟩, fun i H v H' _ q y => ?_⟩
    obtain ⟨T, x, h1, h2, h3, h4⟩ := y
    exact ⟨T, .int (i : Nat), x, h1, h2, h3, rfl, h4⟩
  · exact walk_enum
def iEnumB (K : PySem.W.Frag) (ta : TA) : TI := fun σ H R => ta σ H fun vs H1 => ∃ (a : Addr) (b : Bool) (xs : List V), vs = [.ref a] ∧ SqB K b H1 a xs ∧ R (ItE K b a xs) H1
theorem pi_enumB {K : PySem.W.Frag} {X : Cx} {e : Expr} {ta : TA} {p pos tpos : Pos} {elts : List Expr} {kk : Nat} (hg : Gl X "enumerate") (hm : X.mg "enumerate" = none) (ha : PA X [e] ta) (hs : starEach [e] X.env = [(false, eval e X.env)] := by rfl) (hK : X.K = K := by rfl) :
    PI X (.Tuple elts kk tpos) (.Call (.Name "enumerate" p) [e] [] pos) (iEnumB K ta) := by
  subst hK
  refine ⟨fun pins s σ H R I h => ?_⟩
  refine Call_ (ld_blt I hg hm boot_enumerate (PyProof.Rows.callWith_type1 (thn (ha.run pos pins s σ H _ I h) fun us s1 ⟨vs, H1, I1, r1, q1⟩ => ?_) hs rfl))
  obtain ⟨a, b, xs, ex, hq, q⟩ := q1
  subst ex
  cases r1 with
  | cons r rr =>
    cases rr
    cases r
    have fin : ∀ {h' : Heap}, (∀ b o, s1.heap.get? b = some o → h'.get? b = some o) → ∀ b ∈ [s1.heap.objs.size + 1, s1.heap.objs.size], s1.heap.objs.size ≤ b := fun {h'} _ b hb => by
      have e' : b = s1.heap.objs.size + 1 ∨ b = s1.heap.objs.size := by simpa using hb
      rcases e' with z | z
      · rw [z]; exact Nat.le_add_right _ _
      · rw [z]; exact Nat.le_refl _
    cases b
    · obtain ⟨its, rv, p', hz⟩ := I1.tuple (show SqT X.K H1 a xs from hq)
      refine call_enumerate_tup (show s1.heap.IsTuple a its.toArray from p') fun h' he hit hsz hk => wpAny_pyIter_enum he ?_
      have I2 : Inv X pins σ H1 { s1 with heap := h' } := I1.kept (t' := s1.toks) hk
      exact ⟨s1.heap.objs.size + 1, [s1.heap.objs.size + 1, s1.heap.objs.size], _, _, H1, rfl, I2, turn_enumT a (s1.heap.objs.size + 1) s1.heap.objs.size xs, ⟨⟨.none, he⟩, hit, Nat.succ_ne_self _⟩, fun b hb => I1.fpOk (fin hk b hb) (I1.hok.fresh (fin hk b hb)), q⟩
    · obtain ⟨its, rv, p', hz⟩ := I1.list (show SqL X.K H1 a xs from hq)
      refine call_enumerate_list p'.isList fun h' he hit hsz hk => wpAny_pyIter_enum he ?_
      have I2 : Inv X pins σ H1 { s1 with heap := h' } := I1.kept (t' := s1.toks) hk
      exact ⟨s1.heap.objs.size + 1, [s1.heap.objs.size + 1, s1.heap.objs.size], _, _, H1, rfl, I2, turn_enum a (s1.heap.objs.size + 1) s1.heap.objs.size, ⟨⟨.none, he⟩, hit, Nat.succ_ne_self _⟩, fun b hb => I1.fpOk (fin hk b hb) (I1.hok.fresh (fin hk b hb)), q⟩
end L2.Vf
/-! What is asked of parts: lists, rows, names, keys; what is required. -/
namespace L2.Vf.K01
open PySem PySem.Spec PyProof.Rows
open Evl (Ex Ev EvT EvL EvA)
theorem sl_tupK {X : Cx} {K : PySem.W.Frag} (hK : X.K = K := by rfl) : SlR X (rSlA K) := by
  subst hK
  exact sl_tupA
theorem op_catAK {X : Cx} {K : PySem.W.Frag} (hK : X.K = K := by rfl) : OpR X (binaryOp .Add) (rCatA K) := by
  subst hK
  exact op_catA
theorem op_notIn_seqK {X : Cx} {K : PySem.W.Frag} (hK : X.K = K := by rfl) : OpR X (compareOp .NotIn) (rIn K true) := by
  subst hK
  exact op_notIn_seq
def lstD : PyData → Bool
  | .list _ => true
  | _ => false
def tupD : PyData → Bool
  | .tuple _ => true
  | _ => false
theorem kit_lst (d : PyData) : kitB (tyD d) "list" = some (lstD d) := by
  cases d with
  | none => exact (by decide +kernel : kitB "NoneType" "list" = some false)
  | bool b => exact (by decide +kernel : kitB "bool" "list" = some false)
  | int i => exact (by decide +kernel : kitB "int" "list" = some false)
  | str x => exact (by decide +kernel : kitB "str" "list" = some false)
  | list xs => exact (by decide +kernel : kitB "list" "list" = some true)
  | tuple xs => exact (by decide +kernel : kitB "tuple" "list" = some false)
  | dict es => exact (by decide +kernel : kitB "dict" "list" = some false)
theorem kit_tup (d : PyData) : kitB (tyD d) "tuple" = some (tupD d) := by
  cases d with
  | none => exact (by decide +kernel : kitB "NoneType" "tuple" = some false)
  | bool b => exact (by decide +kernel : kitB "bool" "tuple" = some false)
  | int i => exact (by decide +kernel : kitB "int" "tuple" = some false)
  | str x => exact (by decide +kernel : kitB "str" "tuple" = some false)
  | list xs => exact (by decide +kernel : kitB "list" "tuple" = some false)
  | tuple xs => exact (by decide +kernel : kitB "tuple" "tuple" = some true)
  | dict es => exact (by decide +kernel : kitB "dict" "tuple" = some false)
abbrev s_is_list : Stmt := top 16
abbrev s_is_row : Stmt := top 17
abbrev s_is_name : Stmt := top 11
abbrev s_is_key : Stmt := top 18
abbrev s_WrongPart : Stmt := top 14
abbrev s_WrongPart___init__ : Stmt := inClass s_WrongPart 0
abbrev s_require : Stmt := top 15
abbrev s_check_new_name : Stmt := top 19
def rowD (n : Nat) : PyData → Bool
  | .tuple ds => decide (ds.length = n)
  | _ => false
def kept : List Str := ["closed", "ended", "gone", "self", "why"]
def nameD : PyData → Bool
  | .str x => wordT x && !inV (.str x) (kept.map V.str)
  | _ => false
theorem nameD_word {d : PyData} (h : nameD d = true) : ∃ x, d = .str x ∧ wordT x = true := by
  cases d with
  | str x =>
    refine ⟨x, rfl, ?_⟩
    have h' : (wordT x && !inV (.str x) (kept.map V.str)) = true := h
    rw [Bool.and_eq_true] at h'
    exact h'.1
  | _ => cases h
theorem wordD_str {d : PyData} (h : wordD d = true) : ∃ x, d = .str x ∧ wordT x = true := by
  cases d with
  | str x => exact ⟨x, rfl, h⟩
  | _ => cases h
theorem strs_flat (xs : List Str) : (xs.map V.str).all flatV = true := by
  rw [List.all_eq_true]
  intro v hv
  obtain ⟨x, _, rfl⟩ := List.mem_map.mp hv
  rfl
theorem dwAll_len {K : PySem.W.Frag} {w : World} {H : Hp} : ∀ {vs : List V} {ds : List PyData}, DwAll K w H vs ds → vs.length = ds.length
  | _, _, .nil => rfl
  | _, _, .cons _ h => by rw [List.length_cons, List.length_cons, dwAll_len h]
theorem dwAll_at {K : PySem.W.Frag} {w : World} {H : Hp} : ∀ {vs : List V} {ds : List PyData} {i : Nat} {v : V}, DwAll K w H vs ds → vs[i]? = some v → ∃ d, ds[i]? = some d ∧ Dw K w H v d
  | _, _, i, v, .nil, h => by simp at h
  | _, _, 0, v, .cons h _, e => by
    obtain rfl := Option.some.inj e
    exact ⟨_, rfl, h⟩
  | _, _, i + 1, v, .cons _ h, e => by
    obtain ⟨d, h1, h2⟩ := dwAll_at (i := i) h (by simpa using e)
    exact ⟨d, by simpa using h1, h2⟩
def spIsList (K : PySem.W.Frag) (w : World) : Sp := fun vs H Q _ => ∃ (v : V) (d : PyData), vs = [v] ∧ Dw K w H v d ∧ ∀ H', Ex H H' → Q (.bl (lstD d || tupD d)) H'
def spIsRow (K : PySem.W.Frag) (w : World) : Sp := fun vs H Q _ => ∃ (v : V) (d : PyData) (n : Nat), vs = [v, .int (n : Int)] ∧ Dw K w H v d ∧ ∀ H', Ex H H' → Q (.bl (rowD n d)) H'
def spIsName (K : PySem.W.Frag) (w : World) : Sp := fun vs H Q _ => ∃ (v : V) (d : PyData), vs = [v] ∧ Dw K w H v d ∧ (∀ x, d = .str x → x.length ≤ 1000) ∧ ∀ H', Ex H H' → Q (.bl (nameD d)) H'
/-- what the text says of the class of wrong parts -/
structure WTxt (K : PySem.W.Frag) (mg : Str → Option Value) (CW fI : Addr) : Prop where
  x : Xcl K CW exL "Exception.__new__"
  no : PySem.W.findIn K (.ref CW) "path" = some none
  iC : PySem.W.findIn K (.ref CW) "__init__" = some (some (.ref fI))
  tI : PySem.W.typeIn K (.ref fI) = some (.type "function")
  ex : PySem.W.subIn K (.ref CW) (.type "BaseException") = some true
  ty : PySem.W.typeIn K (.ref CW) = some (.type "type")
  gW : mg "WrongPart" = some (.ref CW)
  fx : XfC K CW
  te : PySem.W.exmOne K (.ref CW) (.ref CW) = some true
/-- a def that keeps sp, and may raise -/
def HasN (P : Program) (w : World) (K : PySem.W.Frag) (mg : Str → Option Value) (base : Heap) (k : Nat) (x : Str) (ps : List Str) (sp : Sp) : Prop :=
  ∃ f fd, FnOk P w K mg base (L2N.CX P w) k f fd ps sp ∧ mg x = some (.ref f) ∧ PySem.W.keepIn K (.ref f) = true ∧ Binds K fd ps []
def spWInit (K : PySem.W.Frag) (CW : Addr) : Sp := fun vs H Q _ => ∃ (a p : Addr), vs = [.ref a, .ref p] ∧ H a = some (exo a CW none) ∧
  ∀ dx, H dx = none → dx ≠ a → Q .non (upd (upd H dx (exd dx [("path", .ref p)])) a (exo a CW (some dx)))
/-- a wrong part is told by its path -/
def Tells (K : PySem.W.Frag) (CW : Addr) (E : XK) (H : Hp) (path : List Int) : Prop :=
  ∀ (H' : Hp) (dd p : Addr), Ex H H' → H' dd = some (.xd [("path", .ref p)]) → SqT K H' p (path.map V.int) → E (.ref CW) (some dd) H'
/-- a check ends in order, or tells of a path -/
def Out (K : PySem.W.Frag) (CW : Addr) (r : Option (List Int)) (H : Hp) (Q : VK) (E : XK) : Prop := (r = none → ∀ H', Ex H H' → Q .non H') ∧ ∀ path, r = some path → Tells K CW E H path
theorem Tells.ex {K : PySem.W.Frag} {CW : Addr} {E : XK} {H H1 : Hp} {path : List Int} (h : Tells K CW E H path) (e : Ex H H1) : Tells K CW E H1 path := fun H' dd p e' => h H' dd p (e.trans e')
theorem Out.ex {K : PySem.W.Frag} {CW : Addr} {r : Option (List Int)} {H H1 : Hp} {Q : VK} {E : XK} (h : Out K CW r H Q E) (e : Ex H H1) : Out K CW r H1 Q E := ⟨fun z H' e' => h.1 z H' (e.trans e'), fun path z => (h.2 path z).ex e⟩
def spRequire (K : PySem.W.Frag) (CW : Addr) : Sp := fun vs H Q E => ∃ (b : Bool) (p : Addr) (path : List Int), vs = [.bl b, .ref p] ∧ SqT K H p (path.map V.int) ∧ Out K CW (if b then none else some path) H Q E
def newR (d : PyData) (seen : List Str) (path : List Int) : Option (List Int) := match d with
  | .str x => if nameD (.str x) && !inV (.str x) (seen.map V.str) then none else some path
  | _ => some path
def spNewName (K : PySem.W.Frag) (w : World) (CW : Addr) : Sp := fun vs H Q E => ∃ (v : V) (d : PyData) (p e : Addr) (path : List Int) (seen : List Str), vs = [v, .ref p, .ref e] ∧ Dw K w H v d ∧ (∀ x, d = .str x → x.length ≤ 1000) ∧ SqT K H p (path.map V.int) ∧
  SqL K H e (seen.map V.str) ∧ Out K CW (newR d seen path) H Q E
section
variable {P : Program} {w : World} {K : PySem.W.Frag} {mg : Str → Option Value} {base : Heap} {f CW fI aK : Addr} {fd fdI : FuncData}
abbrev n_is_list : List Str := ["value"]
theorem sc_is_list : FnScope n_is_list ["value"] (defScope s_is_list) := ⟨rfl, rfl, rfl, by decide +kernel, rfl, by decide +kernel, by decide +kernel⟩
theorem ok_is_list (F : Fun K "is_list" "is_list" s_is_list f fd) (m_isinstance : mg "isinstance" = none) (m_list : mg "list" = none) (m_tuple : mg "tuple" = none) :
    FnOk P w K mg base CX0 1 f fd ["value"] (spIsList K w) := by
  refine F.ok sc_is_list (fun vs H Q E h => ?_) (fun cdv A outer s H vs Q E hr h => ?_)
  · obtain ⟨a, xs, rfl, _⟩ := h
    rfl
  obtain ⟨v, d, rfl, hd, q⟩ := h
  refine ⟨_, (pss_one (ps_ret (pe_callB (call_isiDT (K := K) (w := w)) (by rfl) m_isinstance (by decide +kernel) (pa_cons (pv 0) (pa_cons (pe_tup (pa_cons (pe_bltn (v := .ty "list") (by rfl) m_list (by decide +kernel) rfl) (pa_cons (pe_bltn (v := .ty "tuple") (by rfl) m_tuple (by decide +kernel) rfl) pa_nil))) pa_nil))))), ?_⟩
  exact ⟨_, rfl, ⟨(by show (2 : Nat) ≤ sizeLine; decide), fun r nr => ⟨_, r, _, _, d, _, _, rfl, upd_same, Dw.mono (Ex.new nr) _ _ hd, kit_lst d, kit_tup d, q _ (Ex.new nr)⟩⟩⟩
abbrev n_is_row : List Str := ["value", "many"]
theorem sc_is_row : FnScope n_is_row ["value", "many"] (defScope s_is_row) := ⟨rfl, rfl, rfl, by decide +kernel, rfl, by decide +kernel, by decide +kernel⟩
theorem ok_is_row (F : Fun K "is_row" "is_row" s_is_row f fd) (m_isinstance : mg "isinstance" = none) (m_len : mg "len" = none) (m_tuple : mg "tuple" = none) :
    FnOk P w K mg base CX0 1 f fd ["value", "many"] (spIsRow K w) := by
  refine F.ok sc_is_row (fun vs H Q E h => ?_) (fun cdv A outer s H vs Q E hr h => ?_)
  · obtain ⟨v, d, n, rfl, _⟩ := h
    rfl
  obtain ⟨v, d, n, rfl, hd, q⟩ := h
  refine ⟨_, (pss_one (ps_ret (pe_and (pe_callB (call_isiD (K := K) (w := w)) (by rfl) m_isinstance (by decide +kernel) (pa_cons (pv 0) (pa_cons (pe_bltn (v := .ty "tuple") (by rfl) m_tuple (by decide +kernel) rfl) pa_nil))) (pe_one (pe_cmpR op_eq (pe_callB (call_lenK (K := K)) (by rfl) m_len PySem.boot_len (pa_cons (pv 0) pa_nil)) (pv 1) (nomark _)))))), ?_⟩
  have qq := q H (Ex.refl H)
  refine ⟨_, rfl, v, _, d, _, rfl, hd, kit_tup d, _, rfl, ?_⟩
  cases hd with
  | @tup a xs ds hx ha =>
    refine ite2 (fun _ => ?_) (fun z => absurd rfl z)
    refine ⟨_, rfl, a, xs, rfl, .inr hx, _, rfl, rfl, ?_⟩
    have e : decide (V.int (xs.length : Int) = V.int (n : Int)) = rowD n (.tuple ds) := by
      rw [dwAll_len ha]
      exact decide_eq_decide.mpr ⟨fun z => Int.ofNat_inj.mp (V.int.inj z), fun z => by rw [z]⟩
    rw [← e] at qq
    exact qq
  | non => exact ite2 (fun z => by cases z) (fun _ => qq)
  | bl b => exact ite2 (fun z => by cases z) (fun _ => qq)
  | int i => exact ite2 (fun z => by cases z) (fun _ => qq)
  | str x => exact ite2 (fun z => by cases z) (fun _ => qq)
  | lst _ _ _ => exact ite2 (fun z => by cases z) (fun _ => qq)
  | dct _ _ => exact ite2 (fun z => by cases z) (fun _ => qq)
abbrev n_is_name : List Str := ["value"]
theorem sc_is_name : FnScope n_is_name ["value"] (defScope s_is_name) := ⟨rfl, rfl, rfl, by decide +kernel, rfl, by decide +kernel, by decide +kernel⟩
theorem ok_is_name (F : Fun K "is_name" "is_name" s_is_name f fd) (m_KEPT : mg "KEPT_WORDS" = some (.ref aK)) (w_KEPT : ∀ H, SqT K H aK (kept.map V.str))
    (h1 : Has P w K mg base 1 "is_word" ["value"] (spIsWord K w)) : FnOk P w K mg base CX0 2 f fd ["value"] (spIsName K w) := by
  obtain ⟨f1, fd1, G_is_word, m_is_word, k_is_word, b_is_word⟩ := h1
  refine F.ok sc_is_name (fun vs H Q E h => ?_) (fun cdv A outer s H vs Q E hr h => ?_)
  · obtain ⟨v, d, rfl, _⟩ := h
    rfl
  obtain ⟨v, d, rfl, hd, hl, q⟩ := h
  refine ⟨_, (pss_one (ps_ret (pe_and (pe_call G_is_word (hr.mono (by omega)) (by rfl) m_is_word k_is_word b_is_word .nil pass0 (pa_cons (pv 0) pa_nil)) (pe_one (pe_cmpR (op_notIn_seqK (K := K)) (pv 0) (pe_glob (v := .ref aK) rfl m_KEPT rfl) (by rfl)))))), ?_⟩
  refine ⟨_, rfl, v, d, rfl, hd, hl, fun H1 e1 => ⟨_, rfl, ite2 (fun z => ?_) (fun z => ?_)⟩⟩
  · obtain ⟨x, rfl, hw⟩ := wordD_str z
    cases hd
    refine ⟨_, rfl, aK, _, rfl, .inr (w_KEPT _), rfl, strs_flat _, ?_⟩
    have qq := q H1 e1
    have e : nameD (.str x) = (wordT x && !inV (.str x) (kept.map V.str)) := rfl
    rw [e, hw, Bool.true_and] at qq
    exact qq
  · have e : nameD d = false := by
      refine Bool.eq_false_iff.mpr fun y => z ?_
      obtain ⟨x, rfl, hw⟩ := nameD_word y
      exact hw
    have qq := q H1 e1
    rw [e] at qq
    exact qq
abbrev n_WrongPart___init__ : List Str := ["self", "path"]
theorem sc_WrongPart___init__ : FnScope n_WrongPart___init__ ["self", "path"] (defScope s_WrongPart___init__) := ⟨rfl, rfl, rfl, by decide +kernel, rfl, by decide +kernel, by decide +kernel⟩
theorem ok_winit (F : Fun K "__init__" "WrongPart.__init__" s_WrongPart___init__ f fd) (T : WTxt K mg CW f) (m_Exception : mg "Exception" = none) :
    FnOk P w K mg base CX0 1 f fd ["self", "path"] (spWInit K CW) := by
  refine F.ok sc_WrongPart___init__ (fun vs H Q E h => ?_) (fun cdv A outer s H vs Q E hr h => ?_)
  · obtain ⟨a, p, rfl, _⟩ := h
    rfl
  obtain ⟨a, p, rfl, ha, q⟩ := h
  refine ⟨_, (pss_cons (ps_expr (pe_exinit (by rfl) m_Exception (pa_cons (pv 0) (pa_cons pe_str pa_nil))))
  (pss_one (ps_first (newId := "Exception.__new__") tlEX (pv 0) (pv 1)))), ?_⟩
  exact ⟨_, rfl, a, CW, _, rfl, by decide, T.x, ha, _, rfl, _, rfl, a, CW, rfl, T.x, T.no, ha, fun dx n1 n2 => q dx n1 n2⟩
abbrev n_require : List Str := ["holds", "path"]
theorem sc_require : FnScope n_require ["holds", "path"] (defScope s_require) := ⟨rfl, rfl, rfl, by decide +kernel, rfl, by decide +kernel, by decide +kernel⟩
theorem ok_require (F : Fun K "require" "require" s_require f fd) (T : WTxt K mg CW fI) (G_W : FnOk P w K mg base CX0 1 fI fdI ["self", "path"] (spWInit K CW)) (b_W : Binds K fdI ["self", "path"] []) :
    FnOk P w K mg base (L2N.CX P w) 3 f fd ["holds", "path"] (spRequire K CW) := by
  refine okN F sc_require (fun vs H Q E h => ?_) (fun cdv A outer s H vs Q E hr h => ?_)
  · obtain ⟨b, p, path, rfl, _⟩ := h
    rfl
  obtain ⟨b, p, path, rfl, hp, q⟩ := h
  refine ⟨_, (pss_one (ps_if (pt_not (pt_val (pv 0)))
  (pss_one (L2N.ps_raise rfl (L2N.takes_of rfl rfl rfl rfl) (pmk_xN PySem.F.excBase_Exception T.x (raises_own T.ex T.ty) T.iC T.tI G_W (hr.mono (by omega)) b_W pass0 (by rfl) T.gW (pa_cons (pv 1) pa_nil))))
  pss_nil)), ?_⟩
  refine ⟨_, rfl, b, rfl, ?_⟩
  cases b with
  | true => exact iteF (q.1 rfl H (Ex.refl H))
  | false =>
    refine iteT ⟨_, rfl, (by show (1 : Nat) ≤ 1000; decide), fun a na => ⟨a, p, rfl, upd_same, fun dx nd da => ⟨rfl, dx, [("path", .ref p)], upd_same, by rw [upd_ne da]; exact upd_same, by rw [upd_ne da] at nd; exact nd, ?_⟩⟩⟩
    have nd' : H dx = none := by rw [upd_ne da] at nd; exact nd
    refine q.2 path rfl _ dx p (fun b o hb => ?_) upd_same ?_
    · rw [upd_ne (ne_of_none hb nd'), del_ne (ne_of_none hb na), upd_ne (ne_of_none hb na), upd_ne (ne_of_none hb nd'), upd_ne (ne_of_none hb na)]
      exact hb
    · refine Evl.ex_t (fun b o hb => ?_) hp
      rw [upd_ne (ne_of_none hb nd'), del_ne (ne_of_none hb na), upd_ne (ne_of_none hb na), upd_ne (ne_of_none hb nd'), upd_ne (ne_of_none hb na)]
      exact hb
abbrev n_check_new_name : List Str := ["value", "path", "earlier"]
theorem sc_check_new_name : FnScope n_check_new_name ["value", "path", "earlier"] (defScope s_check_new_name) := ⟨rfl, rfl, rfl, by decide +kernel, rfl, by decide +kernel, by decide +kernel⟩
theorem ok_check_new_name (F : Fun K "check_new_name" "check_new_name" s_check_new_name f fd) (h1 : Has P w K mg base 2 "is_name" ["value"] (spIsName K w)) (h2 : HasN P w K mg base 3 "require" ["holds", "path"] (spRequire K CW)) :
    FnOk P w K mg base (L2N.CX P w) 4 f fd ["value", "path", "earlier"] (spNewName K w CW) := by
  obtain ⟨f1, fd1, G_is_name, m_is_name, k_is_name, b_is_name⟩ := h1
  obtain ⟨f2, fd2, G_require, m_require, k_require, b_require⟩ := h2
  refine okN F sc_check_new_name (fun vs H Q E h => ?_) (fun cdv A outer s H vs Q E hr h => ?_)
  · obtain ⟨v, d, p, e, path, seen, rfl, _⟩ := h
    rfl
  obtain ⟨v, d, p, e, path, seen, rfl, hd, hl, hp, he, q⟩ := h
  refine ⟨_, (pss_one (ps_expr (pe_callSD G_require (hr.mono (by omega)) (by rfl) m_require k_require b_require .nil (fun σ => L2N.passAt (L2N.takes_of rfl rfl rfl rfl) σ) (pa_cons (pe_and (pe_call G_is_name (hr.mono (by omega)) (by rfl) m_is_name k_is_name b_is_name .nil pass0 (pa_cons (pv 0) pa_nil)) (pe_one (pe_cmpR (op_notIn_seqK (K := K)) (pv 0) (pv 2) (by rfl)))) (pa_cons (pv 1) pa_nil))))), ?_⟩
  refine ⟨_, rfl, v, d, rfl, hd, hl, fun H1 e1 => ⟨_, rfl, ite2 (fun z => ?_) (fun z => ?_)⟩⟩
  · obtain ⟨x, rfl, hw⟩ := nameD_word z
    cases hd
    refine ⟨_, rfl, _, rfl, e, _, rfl, .inl (Evl.ex_l e1 he), rfl, strs_flat _, _, rfl, _, p, path, rfl, Evl.ex_t e1 hp, ?_⟩
    have qq := q.ex e1
    have er : newR (.str x) seen path = if (!inV (.str x) (seen.map V.str)) then none else some path := by
      show (if nameD (.str x) && !inV (.str x) (seen.map V.str) then none else some path) = _
      rw [z, Bool.true_and]
    rw [er] at qq
    exact qq
  · refine ⟨_, rfl, _, p, path, rfl, Evl.ex_t e1 hp, ?_⟩
    have qq := q.ex e1
    have z' : nameD d = false := Bool.eq_false_iff.mpr z
    have er : newR d seen path = some path := by
      unfold newR
      cases d with
      | str x =>
        show (if nameD (.str x) && !inV (.str x) (seen.map V.str) then none else some path) = _
        rw [z', Bool.false_and]
        rfl
      | _ => rfl
    rw [er] at qq
    exact qq
end
end L2.Vf.K01
/-! The checks of a book's parts. -/
namespace L2.Vf.K01
open PySem PySem.Spec PyProof.Rows
open Evl (Ex Ev EvT EvL EvA)
abbrev s_check_sort_words : Stmt := top 23
abbrev s_check_sorts : Stmt := top 22
abbrev s_check_primitives : Stmt := top 24
abbrev s_check_plain_names : Stmt := top 25
def strOf : PyData → Str
  | .str x => x
  | _ => ""
def itemsD : PyData → List PyData
  | .list ds => ds
  | .tuple ds => ds
  | _ => []
def scanR {α : Type} (f : Nat → α → Option (List Int)) : Nat → List α → Option (List Int)
  | _, [] => none
  | i, x :: xs => match f i x with
    | some r => some r
    | none => scanR f (i + 1) xs
theorem scanR_none {α : Type} {f : Nat → α → Option (List Int)} : ∀ {xs : List α} {i : Nat}, (∀ k x, xs[k]? = some x → f (i + k) x = none) → scanR f i xs = none
  | [], _, _ => rfl
  | x :: xs, i, h => by
    unfold scanR
    rw [show f i x = none from h 0 x rfl]
    exact scanR_none (i := i + 1) fun k y hk => by
      have := h (k + 1) y (by simpa using hk)
      rwa [show i + 1 + k = i + (k + 1) by omega]
theorem scanR_some {α : Type} {f : Nat → α → Option (List Int)} {r : List Int} : ∀ {xs : List α} {i k : Nat} {x : α}, (∀ k' x', k' < k → xs[k']? = some x' → f (i + k') x' = none) → xs[k]? = some x → f (i + k) x = some r → scanR f i xs = some r
  | x :: xs, i, 0, y, _, hk, hf => by
    obtain rfl := Option.some.inj hk
    unfold scanR
    rw [show f i x = some r from hf]
  | x :: xs, i, k + 1, y, h, hk, hf => by
    unfold scanR
    rw [show f i x = none from h 0 x (Nat.succ_pos k) rfl]
    exact scanR_some (i := i + 1) (k := k) (fun k' x' lt hx => by
      have := h (k' + 1) x' (by omega) (by simpa using hx)
      rwa [show i + 1 + k' = i + (k' + 1) by omega]) (by simpa using hk) (by rwa [show i + 1 + k = i + (k + 1) by omega])
def wordR (ds : List PyData) (path : List Int) (j : Nat) (d : PyData) : Option (List Int) :=
  if wordD d && !inV (.str (strOf d)) (((ds.take j).map strOf).map V.str) then none else some (path ++ [(j : Int)])
def swR (d : PyData) (path : List Int) : Option (List Int) := match d with
  | .tuple [] => some path
  | .tuple ds => scanR (wordR ds path) 0 ds
  | _ => some path
def nameAt : PyData → Str
  | .tuple (d :: _) => strOf d
  | _ => ""
def sortR (ds : List PyData) (k : Nat) (d : PyData) : Option (List Int) := match d with
  | .tuple [a, b] => match newR a ((ds.take k).map nameAt) [0, (k : Int), 0] with
    | some r => some r
    | none => swR b [0, (k : Int), 1]
  | _ => some [0, (k : Int)]
def sortsR (d : PyData) : Option (List Int) := if lstD d || tupD d then scanR (sortR (itemsD d)) 0 (itemsD d) else some [0]
def small3 : PyData → Bool
  | .int i => decide (i ≤ 2)
  | _ => false
def primR (ds : List PyData) (k : Nat) (d : PyData) : Option (List Int) := match d with
  | .tuple [a, b] => match newR a ((ds.take k).map nameAt) [1, (k : Int), 0] with
    | some r => some r
    | none => if numD b && small3 b then none else some [1, (k : Int), 1]
  | _ => some [1, (k : Int)]
def primsR (d : PyData) : Option (List Int) := if lstD d || tupD d then scanR (primR (itemsD d)) 0 (itemsD d) else some [1]
def plainR (n : Int) (d : PyData) : Option (List Int) := if lstD d || tupD d then scanR (fun k x => newR x (((itemsD d).take k).map strOf) [n, (k : Int)]) 0 (itemsD d) else some [n]
theorem sm_len {d : PyData} (h : smD d = true) : ∀ x, d = .str x → x.length ≤ 1000 := fun x e => by
  subst e
  have z : strSm x = true := h
  unfold strSm at z
  rw [Bool.and_eq_true] at z
  have := of_decide_eq_true z.1
  omega
theorem sm_at : ∀ {ds : List PyData} {i : Nat} {d : PyData}, smAll ds = true → ds[i]? = some d → smD d = true
  | x :: ds, 0, d, h, e => by
    obtain rfl := Option.some.inj e
    have z : (smD x && smAll ds) = true := h
    rw [Bool.and_eq_true] at z
    exact z.1
  | x :: ds, i + 1, d, h, e => by
    have z : (smD x && smAll ds) = true := h
    rw [Bool.and_eq_true] at z
    exact sm_at (i := i) z.2 (by simpa using e)
/-- a list or a tuple: its objects -/
theorem dw_seq {K : PySem.W.Frag} {w : World} {H : Hp} {v : V} {d : PyData} (hd : Dw K w H v d) (h : (lstD d || tupD d) = true) : ∃ (a : Addr) (b : Bool) (xs : List V), v = .ref a ∧ SqB K b H a xs ∧ DwAll K w H xs (itemsD d) := by
  cases hd with
  | lst _ h1 h2 => exact ⟨_, true, _, rfl, h1, h2⟩
  | tup h1 h2 => exact ⟨_, false, _, rfl, h1, h2⟩
  | _ => cases h
theorem cntAll_len1 : ∀ ds : List PyData, ds.length ≤ cntAll ds
  | [] => Nat.le_refl _
  | d :: ds => by
    have h1 := cntAll_len1 ds
    have h2 : 1 ≤ cnt d := by cases d <;> simp [cnt]
    show ds.length + 1 ≤ cnt d + cntAll ds
    omega
theorem cnt_at1 : ∀ {ds : List PyData} {i : Nat} {d : PyData}, ds[i]? = some d → cnt d ≤ cntAll ds
  | x :: ds, 0, d, e => by
    obtain rfl := Option.some.inj e
    show cnt _ ≤ cnt _ + cntAll ds
    omega
  | x :: ds, i + 1, d, e => by
    have := cnt_at1 (ds := ds) (i := i) (by simpa using e)
    show cnt _ ≤ cnt _ + cntAll ds
    omega
theorem items_len (d : PyData) : (itemsD d).length ≤ cnt d := by
  cases d with
  | list ds => have := cntAll_len1 ds; show ds.length ≤ cntAll ds + 1; omega
  | tuple ds => have := cntAll_len1 ds; show ds.length ≤ cntAll ds + 1; omega
  | _ => exact Nat.zero_le _
theorem items_sm {d : PyData} (h : smD d = true) : smAll (itemsD d) = true := by
  cases d with
  | list ds => exact h
  | tuple ds => exact h
  | _ => rfl
theorem items_cnt {d e : PyData} {i : Nat} (h : (itemsD d)[i]? = some e) : cnt e ≤ cnt d := by
  cases d with
  | list ds => have := cnt_at1 (show ds[i]? = some e from h); show cnt e ≤ cntAll ds + 1; omega
  | tuple ds => have := cnt_at1 (show ds[i]? = some e from h); show cnt e ≤ cntAll ds + 1; omega
  | _ => simp [itemsD] at h
/-- a pair: its objects -/
theorem row2 {K : PySem.W.Frag} {w : World} {H : Hp} {v : V} {d : PyData} (hd : Dw K w H v d) (h : rowD 2 d = true) : ∃ (a : Addr) (v0 v1 : V) (d0 d1 : PyData), v = .ref a ∧ d = .tuple [d0, d1] ∧ SqT K H a [v0, v1] ∧ Dw K w H v0 d0 ∧ Dw K w H v1 d1 := by
  cases hd with
  | @tup a xs ds hx ha =>
    have l : ds.length = 2 := of_decide_eq_true h
    cases ha with
    | nil => cases l
    | cons h0 ha =>
      cases ha with
      | nil => cases l
      | cons h1 ha =>
        cases ha with
        | nil => exact ⟨a, _, _, _, _, rfl, rfl, hx, h0, h1⟩
        | cons h2 ha => simp at l
  | _ => cases h
theorem row_ne {d a b : PyData} (h : rowD 2 d = false) : d ≠ .tuple [a, b] := fun e => by
  subst e
  cases h
theorem take_succ {α β : Type} (f : α → β) {xs : List α} {i : Nat} {x : α} (h : xs[i]? = some x) : (xs.take (i + 1)).map f = (xs.take i).map f ++ [f x] := by
  rw [List.take_succ, h]
  simp
/-- path + (k,) -/
theorem catP {K : PySem.W.Frag} {σ : St} {H : Hp} {Q : VK} {p : Addr} {path : List Int} {k : Int} {j1 j2 : Nat} (h1 : σ[j1]? = some (some (.ref p))) (h2 : σ[j2]? = some (some (.int k))) (hp : SqT K H p (path.map V.int)) (lp : path.length ≤ 10)
    (q : ∀ P0 H', Ex H H' → SqT K H' P0 ((path ++ [k]).map V.int) → Q (.ref P0) H') : tOp (rCatA K) (tVar j1) (tTup (tCons (tVar j2) tNil)) σ H Q := by
  have sz : sizeLine = 16777216 := sizeLine_eq
  refine ⟨_, h1, _, h2, (by show (1 : Nat) ≤ sizeLine; omega), fun r nr => ⟨p, r, _, _, rfl, rfl, Evl.ex_t (Ex.new nr) hp, .inl (.inl upd_same), (by rw [List.length_map]; show path.length + 1 ≤ sizeLine; omega), fun e => ?_, fun _ e => (by cases e), fun _ _ P nP => ?_⟩⟩
  · have e' : path = [] := List.map_eq_nil_iff.mp e
    subst e'
    exact q r _ (Ex.new nr) (.inl (.inl upd_same))
  · refine q P _ ((Ex.new nr).trans (Ex.new nP)) ?_
    rw [List.map_append]
    exact .inl (.inl upd_same)
def spSortWords (K : PySem.W.Frag) (w : World) (CW : Addr) : Sp := fun vs H Q E => ∃ (v : V) (d : PyData) (p : Addr) (path : List Int), vs = [v, .ref p] ∧ Dw K w H v d ∧ smD d = true ∧ (itemsD d).length ≤ 900 ∧ SqT K H p (path.map V.int) ∧ path.length ≤ 10 ∧ Out K CW (swR d path) H Q E
def spChk (K : PySem.W.Frag) (w : World) (CW : Addr) (R : PyData → Option (List Int)) : Sp := fun vs H Q E => ∃ (v : V) (d : PyData), vs = [v] ∧ Dw K w H v d ∧ smD d = true ∧ cnt d ≤ 900 ∧ Out K CW (R d) H Q E
def spPlain (K : PySem.W.Frag) (w : World) (CW : Addr) : Sp := fun vs H Q E => ∃ (v : V) (d : PyData) (p : Addr) (n : Int), vs = [v, .ref p] ∧ Dw K w H v d ∧ smD d = true ∧ cnt d ≤ 900 ∧ SqT K H p [V.int n] ∧ Out K CW (plainR n d) H Q E
section
variable {P : Program} {w : World} {K : PySem.W.Frag} {mg : Str → Option Value} {base : Heap} {f CW : Addr} {fd : FuncData}
abbrev n_check_sort_words : List Str := ["words", "path", "k", "word"]
theorem sc_check_sort_words : FnScope n_check_sort_words ["words", "path"] (defScope s_check_sort_words) := ⟨rfl, rfl, rfl, by decide +kernel, rfl, by decide +kernel, by decide +kernel⟩
theorem ok_check_sort_words (F : Fun K "check_sort_words" "check_sort_words" s_check_sort_words f fd) (m_isinstance : mg "isinstance" = none) (m_tuple : mg "tuple" = none) (m_len : mg "len" = none) (m_enumerate : mg "enumerate" = none)
    (h1 : Has P w K mg base 1 "is_word" ["value"] (spIsWord K w)) (h2 : HasN P w K mg base 3 "require" ["holds", "path"] (spRequire K CW)) :
    FnOk P w K mg base (L2N.CX P w) 4 f fd ["words", "path"] (spSortWords K w CW) := by
  obtain ⟨f1, fd1, G_is_word, m_is_word, k_is_word, b_is_word⟩ := h1
  obtain ⟨f2, fd2, G_require, m_require, k_require, b_require⟩ := h2
  refine okN F sc_check_sort_words (fun vs H Q E h => ?_) (fun cdv A outer s H vs Q E hr h => ?_)
  · obtain ⟨v, d, p, path, rfl, _⟩ := h
    rfl
  obtain ⟨v, d, p, path, rfl, hd, sm, l9, hp, lp, q⟩ := h
  refine ⟨_, (pss_cons (ps_expr (pe_callSD G_require (hr.mono (by omega)) (by rfl) m_require k_require b_require .nil (fun σ => L2N.passAt (L2N.takes_of rfl rfl rfl rfl) σ) (pa_cons (pe_and (pe_callB (call_isiD (K := K) (w := w)) (by rfl) m_isinstance (by decide +kernel) (pa_cons (pv 0) (pa_cons (pe_bltn (v := .ty "tuple") (by rfl) m_tuple (by decide +kernel) rfl) pa_nil))) (pe_one (pe_cmpR op_gt (pe_callB (call_lenK (K := K)) (by rfl) m_len PySem.boot_len (pa_cons (pv 0) pa_nil)) pe_int (nomark _)))) (pa_cons (pv 1) pa_nil))))
  (pss_one (ps_for (passes_of rfl) rfl (pi_enumB (K := K) (by rfl) m_enumerate (pa_cons (pv 0) pa_nil)) (pg_tup rfl (pgs_cons (pg_name (i := 2) sc_check_sort_words.nd rfl (.inl rfl)) (pgs_cons (pg_name (i := 3) sc_check_sort_words.nd rfl (.inl rfl)) pgs_nil)))
  (pss_one (ps_expr (pe_callSD G_require (hr.mono (by omega)) (by rfl) m_require k_require b_require .nil (fun σ => L2N.passAt (L2N.takes_of rfl rfl rfl rfl) σ) (pa_cons (pe_and (pe_call G_is_word (hr.mono (by omega)) (by rfl) m_is_word k_is_word b_is_word .nil pass0 (pa_cons (pv 3) pa_nil)) (pe_one (pe_cmpR (op_notIn_seqK (K := K)) (pv 3) (pe_slice (sl_tupK (K := K)) (pv 0) po_none (po_some (pv 2))) (by rfl)))) (pa_cons (pe_op (op_catAK (K := K)) (pv 1) (pe_tup (pa_cons (pv 2) pa_nil))) pa_nil)))))))), ?_⟩
  have bad : ∀ path', swR d path = some path' → ∀ H1, Ex H H1 → Tells K CW E H1 path' := fun path' e H1 e1 => (q.2 path' e).ex e1
  refine ⟨_, rfl, v, _, d, _, rfl, hd, kit_tup d, _, rfl, ?_⟩
  have wrong : (∀ ds, d ≠ .tuple ds) → swR d path = some path := fun z => by
    unfold swR
    cases d with
    | tuple ds => exact absurd rfl (z ds)
    | _ => rfl
  cases hd with
  | @tup a xs ds hx ha =>
    refine ite2 (fun _ => ?_) (fun z => absurd rfl z)
    refine ⟨_, rfl, a, xs, rfl, .inr hx, _, _, rfl, rfl, _, rfl, _, p, path, rfl, hp, ?_⟩
    have ln := dwAll_len ha
    cases ds with
    | nil =>
      rw [List.length_nil] at ln
      rw [ln]
      exact ⟨fun z => (by cases z), fun path' e => bad path' e H (Ex.refl H)⟩
    | cons d0 dr =>
      have l0 : decide ((0 : Int) < (xs.length : Int)) = true := decide_eq_true (by rw [ln, List.length_cons]; omega)
      rw [l0]
      refine ⟨fun _ H0 e0 => ?_, fun path' z => (by cases z)⟩
      have er : swR (.tuple (d0 :: dr)) path = scanR (wordR (d0 :: dr) path) 0 (d0 :: dr) := rfl
      generalize d0 :: dr = ds at er ha ln sm l9 bad q wrong
      have lx : xs.length ≤ 900 := by rw [ln]; exact l9
      refine ⟨_, rfl, a, false, xs, rfl, Evl.ex_t e0 hx, for_it (walk_enumB (K := K) (b := false) (a := a) (xs := xs)) (fun i σ H' => (∃ y2 y3, σ = [some (.ref a), some (.ref p), y2, y3]) ∧ Ex H H' ∧ ∀ k x, k < i → ds[k]? = some x → wordR ds path k x = none)
        ⟨⟨none, none, rfl⟩, e0, fun k x z => absurd z (Nat.not_lt_zero k)⟩ (fun i σ H' _ h => Evl.ex_t h.2.1 hx) ?_ ?_⟩
      · rintro i x σ H1 H2 hi ⟨⟨y2, y3, rfl⟩, e1, al⟩ ⟨T, x1, y, rfl, nT, rfl, ex1, hy⟩
        obtain rfl := Option.some.inj ex1
        obtain ⟨dy, hdy, Dy⟩ := dwAll_at ha hy
        have e2 := e1.trans (Ex.new (o := HO.tup [V.int (i : Nat), y]) nT)
        refine ⟨T, _, rfl, .inl (.inl upd_same), rfl, _, _, rfl, _, _, rfl, rfl, ?_⟩
        refine ⟨_, rfl, y, dy, rfl, Dw.mono e2 _ _ Dy, sm_len (sm_at (items_sm (d := .tuple ds) sm) hdy), fun H3 e3 => ⟨_, rfl, ite2 (fun z => ?_) (fun z => ?_)⟩⟩
        · obtain ⟨x, rfl, hw⟩ := wordD_str z
          cases Dy
          have e3' := e2.trans e3
          have strx : ∀ j, j ≤ i → xs.take j = ((ds.take j).map strOf).map V.str := fun j hj => by
            refine List.ext_getElem? fun n => ?_
            by_cases hn : n < j
            · obtain ⟨vn, hvn⟩ : ∃ vn, xs[n]? = some vn := ⟨_, List.getElem?_eq_getElem (by omega)⟩
              obtain ⟨dn, hdn, Dn⟩ := dwAll_at ha hvn
              have w0 := al n dn (by omega) hdn
              have wd : wordD dn = true := by
                unfold wordR at w0
                cases e : wordD dn with
                | true => rfl
                | false => rw [e, Bool.false_and] at w0; cases w0
              obtain ⟨xn, rfl, _⟩ := wordD_str wd
              cases Dn
              rw [List.getElem?_take_of_lt hn, List.getElem?_map, List.getElem?_map, List.getElem?_take_of_lt hn, hvn, hdn]
              rfl
            · rw [List.getElem?_eq_none (by rw [List.length_take]; omega), List.getElem?_eq_none (by rw [List.length_map, List.length_map, List.length_take]; omega)]
          refine ⟨_, rfl, _, rfl, _, rfl, _, rfl, a, xs, rfl, Evl.ex_t e3' hx, fun z => ?_, fun _ c nc => ⟨c, _, rfl, .inr (.inl (.inl upd_same)), rfl, ?_, ?_⟩⟩
          · exfalso
            have z2 := z.2
            rw [HT.sIx_nat, Nat.min_eq_left (Nat.le_of_lt hi)] at z2
            omega
          · rw [cut_to (Nat.le_of_lt hi), strx i (Nat.le_refl i)]
            exact strs_flat _
          rw [cut_to (Nat.le_of_lt hi), strx i (Nat.le_refl i)]
          have e4 := e3'.trans (Ex.new (o := HO.tup (((ds.take i).map strOf).map V.str)) nc)
          have rr : ∀ b : Bool, (!inV (.str x) (((ds.take i).map strOf).map V.str)) = b → wordR ds path i (.str x) = if b then none else some (path ++ [(i : Int)]) := fun b eb => by
            unfold wordR
            rw [z, Bool.true_and, show strOf (.str x) = x from rfl, eb]
          generalize eb : (!inV (.str x) (((ds.take i).map strOf).map V.str)) = b
          refine catP (p := p) (path := path) (k := (i : Int)) rfl rfl (Evl.ex_t e4 hp) lp fun P0 H5 e5 hP => ?_
          have e45 := e4.trans e5
          have r2 := rr b eb
          refine ⟨b, P0, path ++ [(i : Int)], rfl, hP, fun hb H6 e6 => ⟨⟨_, _, rfl⟩, e45.trans e6, fun k x2 hk hx2 => ?_⟩, fun path' hb => ?_⟩
          · rcases Nat.lt_or_ge k i with lt | ge
            · exact al k x2 lt hx2
            · have e : k = i := by omega
              subst e
              rw [hdy] at hx2
              obtain rfl := Option.some.inj hx2
              rw [r2]
              exact hb
          · refine bad path' ?_ H5 e45
            rw [er]
            refine scanR_some (k := i) (fun k' x' lt hx' => by rw [Nat.zero_add]; exact al k' x' lt hx') hdy ?_
            rw [Nat.zero_add, r2]
            exact hb
        · have e23 := e2.trans e3
          refine catP (p := p) (path := path) (k := (i : Int)) rfl rfl (Evl.ex_t e23 hp) lp fun P0 H5 e5 hP => ?_
          have e45 := e23.trans e5
          refine ⟨false, P0, path ++ [(i : Int)], rfl, hP, fun hb => (by cases hb), fun path' hb => ?_⟩
          obtain rfl := Option.some.inj hb
          refine bad _ ?_ H5 e45
          rw [er]
          refine scanR_some (k := i) (fun k' x' lt hx' => by rw [Nat.zero_add]; exact al k' x' lt hx') hdy ?_
          rw [Nat.zero_add]
          unfold wordR
          rw [Bool.eq_false_iff.mpr z, Bool.false_and]
          rfl
      · rintro σ H1 ⟨⟨y2, y3, rfl⟩, e1, al⟩
        refine q.1 ?_ H1 e1
        rw [er]
        refine scanR_none fun k x hk => ?_
        rw [Nat.zero_add]
        have := (List.getElem?_eq_some_iff.mp hk).1
        exact al k x (by omega) hk
  | non => exact ite2 (fun z => by cases z) (fun _ => ⟨_, rfl, _, p, path, rfl, hp, fun z => (by cases z), fun path' e => bad path' ((wrong (fun ds z => by cases z)).trans e) H (Ex.refl H)⟩)
  | bl b => exact ite2 (fun z => by cases z) (fun _ => ⟨_, rfl, _, p, path, rfl, hp, fun z => (by cases z), fun path' e => bad path' ((wrong (fun ds z => by cases z)).trans e) H (Ex.refl H)⟩)
  | int i => exact ite2 (fun z => by cases z) (fun _ => ⟨_, rfl, _, p, path, rfl, hp, fun z => (by cases z), fun path' e => bad path' ((wrong (fun ds z => by cases z)).trans e) H (Ex.refl H)⟩)
  | str x => exact ite2 (fun z => by cases z) (fun _ => ⟨_, rfl, _, p, path, rfl, hp, fun z => (by cases z), fun path' e => bad path' ((wrong (fun ds z => by cases z)).trans e) H (Ex.refl H)⟩)
  | lst _ _ _ => exact ite2 (fun z => by cases z) (fun _ => ⟨_, rfl, _, p, path, rfl, hp, fun z => (by cases z), fun path' e => bad path' ((wrong (fun ds z => by cases z)).trans e) H (Ex.refl H)⟩)
  | dct _ _ => exact ite2 (fun z => by cases z) (fun _ => ⟨_, rfl, _, p, path, rfl, hp, fun z => (by cases z), fun path' e => bad path' ((wrong (fun ds z => by cases z)).trans e) H (Ex.refl H)⟩)
abbrev n_check_sorts : List Str := ["sorts", "seen", "k", "sort"]
theorem sc_check_sorts : FnScope n_check_sorts ["sorts"] (defScope s_check_sorts) := ⟨rfl, rfl, rfl, by decide +kernel, rfl, by decide +kernel, by decide +kernel⟩
theorem ok_check_sorts (F : Fun K "check_sorts" "check_sorts" s_check_sorts f fd) (m_enumerate : mg "enumerate" = none) (h1 : Has P w K mg base 1 "is_list" ["value"] (spIsList K w)) (h2 : Has P w K mg base 1 "is_row" ["value", "many"] (spIsRow K w)) (h3 : HasN P w K mg base 3 "require" ["holds", "path"] (spRequire K CW))
    (h4 : HasN P w K mg base 4 "check_new_name" ["value", "path", "earlier"] (spNewName K w CW)) (h5 : HasN P w K mg base 4 "check_sort_words" ["words", "path"] (spSortWords K w CW)) :
    FnOk P w K mg base (L2N.CX P w) 5 f fd ["sorts"] (spChk K w CW sortsR) := by
  obtain ⟨f1, fd1, G_is_list, m_is_list, k_is_list, b_is_list⟩ := h1
  obtain ⟨f2, fd2, G_is_row, m_is_row, k_is_row, b_is_row⟩ := h2
  obtain ⟨f3, fd3, G_require, m_require, k_require, b_require⟩ := h3
  obtain ⟨f4, fd4, G_check_new_name, m_check_new_name, k_check_new_name, b_check_new_name⟩ := h4
  obtain ⟨f5, fd5, G_check_sort_words, m_check_sort_words, k_check_sort_words, b_check_sort_words⟩ := h5
  refine okN F sc_check_sorts (fun vs H Q E h => ?_) (fun cdv A outer s H vs Q E hr h => ?_)
  · obtain ⟨v, d, rfl, _⟩ := h
    rfl
  obtain ⟨v, d, rfl, hd, sm, l9, q⟩ := h
  refine ⟨_, (pss_cons (ps_expr (pe_callSD G_require (hr.mono (by omega)) (by rfl) m_require k_require b_require .nil (fun σ => L2N.passAt (L2N.takes_of rfl rfl rfl rfl) σ) (pa_cons (pe_call G_is_list (hr.mono (by omega)) (by rfl) m_is_list k_is_list b_is_list .nil pass0 (pa_cons (pv 0) pa_nil)) (pa_cons (pe_tup (pa_cons pe_int pa_nil)) pa_nil))))
  (pss_cons (ps_set (i := 1) sc_check_sorts.nd rfl (.inl rfl) (pe_lst pa_nil))
  (pss_one (ps_for (passes_of rfl) rfl (pi_enumB (K := K) (by rfl) m_enumerate (pa_cons (pv 0) pa_nil)) (pg_tup rfl (pgs_cons (pg_name (i := 2) sc_check_sorts.nd rfl (.inl rfl)) (pgs_cons (pg_name (i := 3) sc_check_sorts.nd rfl (.inl rfl)) pgs_nil)))
  (pss_cons (ps_expr (pe_callSD G_require (hr.mono (by omega)) (by rfl) m_require k_require b_require .nil (fun σ => L2N.passAt (L2N.takes_of rfl rfl rfl rfl) σ) (pa_cons (pe_call G_is_row (hr.mono (by omega)) (by rfl) m_is_row k_is_row b_is_row .nil pass0 (pa_cons (pv 3) (pa_cons pe_int pa_nil))) (pa_cons (pe_tup (pa_cons pe_int (pa_cons (pv 2) pa_nil))) pa_nil))))
  (pss_cons (ps_expr (pe_callSD G_check_new_name (hr.mono (by omega)) (by rfl) m_check_new_name k_check_new_name b_check_new_name .nil (fun σ => L2N.passAt (L2N.takes_of rfl rfl rfl rfl) σ) (pa_cons (pe_ix (ix_tupK (K := K)) (pv 3) pe_int (fun _ _ => rfl)) (pa_cons (pe_tup (pa_cons pe_int (pa_cons (pv 2) (pa_cons pe_int pa_nil)))) (pa_cons (pv 1) pa_nil)))))
  (pss_cons (ps_expr (pe_callSD G_check_sort_words (hr.mono (by omega)) (by rfl) m_check_sort_words k_check_sort_words b_check_sort_words .nil (fun σ => L2N.passAt (L2N.takes_of rfl rfl rfl rfl) σ) (pa_cons (pe_ix (ix_tupK (K := K)) (pv 3) pe_int (fun _ _ => rfl)) (pa_cons (pe_tup (pa_cons pe_int (pa_cons (pv 2) (pa_cons pe_int pa_nil)))) pa_nil))))
  (pss_one (ps_expr (pe_bm PySem.F.plainAttrs_list PySem.F.slot_list_append PySem.F.type_list_append mt_append (pv 1) (pa_cons (pe_ix (ix_tupK (K := K)) (pv 3) pe_int (fun _ _ => rfl)) pa_nil))))))))))), ?_⟩
  have bad : ∀ path', sortsR d = some path' → ∀ H1, Ex H H1 → Tells K CW E H1 path' := fun path' e H1 e1 => (q.2 path' e).ex e1
  have sz : sizeLine = 16777216 := sizeLine_eq
  refine ⟨_, rfl, v, d, rfl, hd, fun H0 e0 => ⟨(by show (1 : Nat) ≤ sizeLine; omega), fun p0 np0 => ?_⟩⟩
  have e1 := e0.trans (Ex.new (o := HO.tup [V.int 0]) np0)
  refine ⟨lstD d || tupD d, p0, [0], rfl, .inl (.inl upd_same), fun hb H1 e2 => ?_, fun path' hb => ?_⟩
  rotate_left
  · cases hl : (lstD d || tupD d) with
    | true => rw [hl] at hb; cases hb
    | false =>
      rw [hl] at hb
      obtain rfl := Option.some.inj hb
      refine bad _ ?_ _ e1
      unfold sortsR
      rw [hl]
      rfl
  have hl : (lstD d || tupD d) = true := by
    cases hl : (lstD d || tupD d) with
    | true => rfl
    | false => rw [hl] at hb; cases hb
  have er : sortsR d = scanR (sortR (itemsD d)) 0 (itemsD d) := by
    unfold sortsR
    rw [hl]
    rfl
  obtain ⟨a, b, xs, rfl, hs, ha⟩ := dw_seq hd hl
  have lx : xs.length ≤ 900 := by rw [dwAll_len ha]; have := items_len d; omega
  have e12 := e1.trans e2
  refine ⟨(by show (0 : Nat) ≤ sizeLine; omega), fun S nS => ?_⟩
  have nSH := Evl.fresh_back e12 nS
  have e3 := e12.trans (Ex.new (o := HO.lst []) nS)
  refine ⟨_, rfl, a, b, xs, rfl, hs.mono e3, for_it (walk_enumB (K := K) (b := b) (a := a) (xs := xs)) (fun i σ H' => (∃ y2 y3, σ = [some (.ref a), some (.ref S), y2, y3]) ∧ Ex H H' ∧ H' S = some (.lst ((((itemsD d).take i).map nameAt).map V.str)) ∧ ∀ k x, k < i → (itemsD d)[k]? = some x → sortR (itemsD d) k x = none)
    ⟨⟨none, none, rfl⟩, e3, upd_same, fun k x z => absurd z (Nat.not_lt_zero k)⟩ (fun i σ H' _ h => hs.mono h.2.1) ?_ ?_⟩
  rotate_left
  · rintro σ H2 ⟨⟨y2, y3, rfl⟩, e4, hS, al⟩
    refine q.1 ?_ H2 e4
    rw [er]
    refine scanR_none fun k x hk => ?_
    rw [Nat.zero_add]
    have := (List.getElem?_eq_some_iff.mp hk).1
    exact al k x (by rw [dwAll_len ha]; exact this) hk
  rintro i x σ H1' H2 hi ⟨⟨y2, y3, rfl⟩, e4, hS, al⟩ ⟨T, x1, y, rfl, nT, rfl, ex1, hy⟩
  obtain rfl := Option.some.inj ex1
  obtain ⟨dy, hdy, Dy⟩ := dwAll_at ha hy
  have nTS : T ≠ S := (ne_of_none hS nT).symm
  have e5 := e4.trans (Ex.new (o := HO.tup [V.int (i : Nat), y]) nT)
  have hS5 : (upd H1' T (HO.tup [V.int (i : Nat), y])) S = some (.lst ((((itemsD d).take i).map nameAt).map V.str)) := by rw [upd_ne nTS.symm]; exact hS
  have wrong : ∀ {r : List Int} {H6 : Hp}, sortR (itemsD d) i dy = some r → Ex H H6 → Tells K CW E H6 r := fun {r H6} e e6 => by
    refine bad _ ?_ _ e6
    rw [er]
    exact scanR_some (k := i) (fun k' x' lt hx' => by rw [Nat.zero_add]; exact al k' x' lt hx') hdy (by rw [Nat.zero_add]; exact e)
  refine ⟨T, _, rfl, .inl (.inl upd_same), rfl, _, _, rfl, _, _, rfl, rfl, ?_⟩
  refine ⟨_, rfl, y, dy, 2, rfl, Dw.mono e5 _ _ Dy, fun H6 e6 => ⟨_, rfl, (by show (2 : Nat) ≤ sizeLine; omega), fun p1 np1 => ?_⟩⟩
  have e7 := (e5.trans e6).trans (Ex.new (o := HO.tup [V.int 0, V.int (i : Nat)]) np1)
  have hS7 := (Ex.trans e6 (Ex.new (o := HO.tup [V.int 0, V.int (i : Nat)]) np1)) _ _ hS5
  refine ⟨rowD 2 dy, p1, [0, (i : Int)], rfl, .inl (.inl upd_same), fun hb H8 e8 => ?_, fun path' hb => ?_⟩
  rotate_left
  · cases hr2 : rowD 2 dy with
    | true => rw [hr2] at hb; cases hb
    | false =>
      rw [hr2] at hb
      obtain rfl := Option.some.inj hb
      refine wrong ?_ e7
      unfold sortR
      split
      · exact absurd rfl (row_ne hr2)
      · rfl
  have hr2 : rowD 2 dy = true := by
    cases hr2 : rowD 2 dy with
    | true => rfl
    | false => rw [hr2] at hb; cases hb
  have e78 := e7.trans e8
  have hS8 := e8 _ _ hS7
  obtain ⟨ra, v0, v1, d0, d1, rfl, rfl, hra, D0, D1⟩ := row2 Dy hr2
  have smr : smD (.tuple [d0, d1]) = true := sm_at (items_sm sm) hdy
  have sm0 : smD d0 = true := sm_at (ds := [d0, d1]) (i := 0) smr rfl
  have sm1 : smD d1 = true := sm_at (ds := [d0, d1]) (i := 1) smr rfl
  refine ⟨_, rfl, ra, _, _, v0, rfl, rfl, Evl.ex_t e78 hra, rfl, _, rfl, (by show (3 : Nat) ≤ sizeLine; omega), fun p2 np2 => ⟨_, rfl, ?_⟩⟩
  have x9 := Ex.new (o := HO.tup [V.int 0, V.int (i : Nat), V.int 0]) np2
  have e9 := e78.trans x9
  have hS9 := x9 _ _ hS8
  refine ⟨v0, d0, p2, S, [0, (i : Int), 0], ((itemsD d).take i).map nameAt, rfl, Dw.mono e9 _ _ D0, sm_len sm0, .inl (.inl upd_same), SqL.of hS9, fun hn H10 e10 => ?_, fun path' hn => ?_⟩
  rotate_left
  · refine wrong ?_ e9
    show (match newR d0 (((itemsD d).take i).map nameAt) [0, (i : Int), 0] with
      | some r => some r
      | none => _) = some path'
    rw [hn]
  obtain ⟨x0, rfl⟩ : ∃ x0, d0 = .str x0 := by
    cases d0 with
    | str x0 => exact ⟨x0, rfl⟩
    | _ => cases hn
  cases D0
  have rowE : sortR (itemsD d) i (.tuple [.str x0, d1]) = swR d1 [0, (i : Int), 1] := by
    show (match newR (.str x0) (((itemsD d).take i).map nameAt) [0, (i : Int), 0] with
      | some r => some r
      | none => _) = _
    rw [hn]
  have e910 := e9.trans e10
  have hS10 := e10 _ _ hS9
  have last : ∀ H12, Ex H H12 → H12 S = some (.lst ((((itemsD d).take i).map nameAt).map V.str)) → sortR (itemsD d) i (.tuple [.str x0, d1]) = none →
      (∃ y2 y3, [some (V.ref a), some (V.ref S), some (V.int (i : Nat)), some (V.ref ra)] = [some (.ref a), some (.ref S), y2, y3]) ∧ Ex H (upd H12 S (.lst ((((itemsD d).take i).map nameAt).map V.str ++ [V.str x0]))) ∧
        (upd H12 S (.lst ((((itemsD d).take i).map nameAt).map V.str ++ [V.str x0]))) S = some (.lst ((((itemsD d).take (i + 1)).map nameAt).map V.str)) ∧ ∀ k x, k < i + 1 → (itemsD d)[k]? = some x → sortR (itemsD d) k x = none := fun H12 e hs12 hr0 => by
    refine ⟨⟨_, _, rfl⟩, e.mut nSH, ?_, fun k x2 hk hx2 => ?_⟩
    · rw [upd_same, take_succ nameAt hdy, List.map_append]
      rfl
    · rcases Nat.lt_or_ge k i with lt | ge
      · exact al k x2 lt hx2
      · have ek : k = i := by omega
        subst ek
        rw [hdy] at hx2
        obtain rfl := Option.some.inj hx2
        exact hr0
  have ln9 : ((((itemsD d).take i).map nameAt).map V.str).length < sizeLine := by
    rw [List.length_map, List.length_map, List.length_take]
    have := items_len d
    omega
  refine ⟨_, rfl, ra, _, _, v1, rfl, rfl, Evl.ex_t e910 hra, rfl, _, rfl, (by show (3 : Nat) ≤ sizeLine; omega), fun p3 np3 => ?_⟩
  have x11 := Ex.new (o := HO.tup [V.int 0, V.int (i : Nat), V.int 1]) np3
  have e11 := e910.trans x11
  have hS11 := x11 _ _ hS10
  refine ⟨v1, d1, p3, [0, (i : Int), 1], rfl, Dw.mono e11 _ _ D1, sm1, ?_,   .inl (.inl upd_same), (by show (3 : Nat) ≤ 10; decide), fun hw H12 e12 => ?_, fun path' hw => wrong (rowE.trans hw) e11⟩
  · have h1 := items_len d1
    have h2 := items_cnt hdy
    have h3 : cnt d1 ≤ cnt (.tuple [.str x0, d1]) := items_cnt (d := .tuple [.str x0, d1]) (i := 1) rfl
    omega
  · exact ⟨_, rfl, .inl ⟨rfl, _, SqL.of (e12 _ _ hS11)⟩, _, rfl, ra, _, _, .str x0, rfl, rfl, Evl.ex_t (e11.trans e12) hra, rfl, S, _, _, rfl, rfl, e12 _ _ hS11, ln9, last H12 (e11.trans e12) (e12 _ _ hS11) (rowE.trans hw)⟩
abbrev n_check_primitives : List Str := ["primitives", "seen", "k", "primitive"]
theorem sc_check_primitives : FnScope n_check_primitives ["primitives"] (defScope s_check_primitives) := ⟨rfl, rfl, rfl, by decide +kernel, rfl, by decide +kernel, by decide +kernel⟩
theorem ok_check_primitives (F : Fun K "check_primitives" "check_primitives" s_check_primitives f fd) (m_enumerate : mg "enumerate" = none) (h1 : Has P w K mg base 1 "is_list" ["value"] (spIsList K w)) (h2 : Has P w K mg base 1 "is_row" ["value", "many"] (spIsRow K w)) (h3 : HasN P w K mg base 3 "require" ["holds", "path"] (spRequire K CW))
    (h4 : HasN P w K mg base 4 "check_new_name" ["value", "path", "earlier"] (spNewName K w CW)) (h5 : Has P w K mg base 1 "is_number" ["value"] (spIsNumber K w)) :
    FnOk P w K mg base (L2N.CX P w) 5 f fd ["primitives"] (spChk K w CW primsR) := by
  obtain ⟨f1, fd1, G_is_list, m_is_list, k_is_list, b_is_list⟩ := h1
  obtain ⟨f2, fd2, G_is_row, m_is_row, k_is_row, b_is_row⟩ := h2
  obtain ⟨f3, fd3, G_require, m_require, k_require, b_require⟩ := h3
  obtain ⟨f4, fd4, G_check_new_name, m_check_new_name, k_check_new_name, b_check_new_name⟩ := h4
  obtain ⟨f5, fd5, G_is_number, m_is_number, k_is_number, b_is_number⟩ := h5
  refine okN F sc_check_primitives (fun vs H Q E h => ?_) (fun cdv A outer s H vs Q E hr h => ?_)
  · obtain ⟨v, d, rfl, _⟩ := h
    rfl
  obtain ⟨v, d, rfl, hd, sm, l9, q⟩ := h
  refine ⟨_, (pss_cons (ps_expr (pe_callSD G_require (hr.mono (by omega)) (by rfl) m_require k_require b_require .nil (fun σ => L2N.passAt (L2N.takes_of rfl rfl rfl rfl) σ) (pa_cons (pe_call G_is_list (hr.mono (by omega)) (by rfl) m_is_list k_is_list b_is_list .nil pass0 (pa_cons (pv 0) pa_nil)) (pa_cons (pe_tup (pa_cons pe_int pa_nil)) pa_nil))))
  (pss_cons (ps_set (i := 1) sc_check_primitives.nd rfl (.inl rfl) (pe_lst pa_nil))
  (pss_one (ps_for (passes_of rfl) rfl (pi_enumB (K := K) (by rfl) m_enumerate (pa_cons (pv 0) pa_nil)) (pg_tup rfl (pgs_cons (pg_name (i := 2) sc_check_primitives.nd rfl (.inl rfl)) (pgs_cons (pg_name (i := 3) sc_check_primitives.nd rfl (.inl rfl)) pgs_nil)))
  (pss_cons (ps_expr (pe_callSD G_require (hr.mono (by omega)) (by rfl) m_require k_require b_require .nil (fun σ => L2N.passAt (L2N.takes_of rfl rfl rfl rfl) σ) (pa_cons (pe_call G_is_row (hr.mono (by omega)) (by rfl) m_is_row k_is_row b_is_row .nil pass0 (pa_cons (pv 3) (pa_cons pe_int pa_nil))) (pa_cons (pe_tup (pa_cons pe_int (pa_cons (pv 2) pa_nil))) pa_nil))))
  (pss_cons (ps_expr (pe_callSD G_check_new_name (hr.mono (by omega)) (by rfl) m_check_new_name k_check_new_name b_check_new_name .nil (fun σ => L2N.passAt (L2N.takes_of rfl rfl rfl rfl) σ) (pa_cons (pe_ix (ix_tupK (K := K)) (pv 3) pe_int (fun _ _ => rfl)) (pa_cons (pe_tup (pa_cons pe_int (pa_cons (pv 2) (pa_cons pe_int pa_nil)))) (pa_cons (pv 1) pa_nil)))))
  (pss_cons (ps_expr (pe_callSD G_require (hr.mono (by omega)) (by rfl) m_require k_require b_require .nil (fun σ => L2N.passAt (L2N.takes_of rfl rfl rfl rfl) σ) (pa_cons (pe_and (pe_call G_is_number (hr.mono (by omega)) (by rfl) m_is_number k_is_number b_is_number .nil pass0 (pa_cons (pe_ix (ix_tupK (K := K)) (pv 3) pe_int (fun _ _ => rfl)) pa_nil)) (pe_one (pe_cmpR op_le (pe_ix (ix_tupK (K := K)) (pv 3) pe_int (fun _ _ => rfl)) pe_int (nomark _)))) (pa_cons (pe_tup (pa_cons pe_int (pa_cons (pv 2) (pa_cons pe_int pa_nil)))) pa_nil))))
  (pss_one (ps_expr (pe_bm PySem.F.plainAttrs_list PySem.F.slot_list_append PySem.F.type_list_append mt_append (pv 1) (pa_cons (pe_ix (ix_tupK (K := K)) (pv 3) pe_int (fun _ _ => rfl)) pa_nil))))))))))), ?_⟩
  have bad : ∀ path', primsR d = some path' → ∀ H1, Ex H H1 → Tells K CW E H1 path' := fun path' e H1 e1 => (q.2 path' e).ex e1
  have sz : sizeLine = 16777216 := sizeLine_eq
  refine ⟨_, rfl, v, d, rfl, hd, fun H0 e0 => ⟨(by show (1 : Nat) ≤ sizeLine; omega), fun p0 np0 => ?_⟩⟩
  have e1 := e0.trans (Ex.new (o := HO.tup [V.int 1]) np0)
  refine ⟨lstD d || tupD d, p0, [1], rfl, .inl (.inl upd_same), fun hb H1 e2 => ?_, fun path' hb => ?_⟩
  rotate_left
  · cases hl : (lstD d || tupD d) with
    | true => rw [hl] at hb; cases hb
    | false =>
      rw [hl] at hb
      obtain rfl := Option.some.inj hb
      refine bad _ ?_ _ e1
      unfold primsR
      rw [hl]
      rfl
  have hl : (lstD d || tupD d) = true := by
    cases hl : (lstD d || tupD d) with
    | true => rfl
    | false => rw [hl] at hb; cases hb
  have er : primsR d = scanR (primR (itemsD d)) 0 (itemsD d) := by
    unfold primsR
    rw [hl]
    rfl
  obtain ⟨a, b, xs, rfl, hs, ha⟩ := dw_seq hd hl
  have lx : xs.length ≤ 900 := by rw [dwAll_len ha]; have := items_len d; omega
  have e12 := e1.trans e2
  refine ⟨(by show (0 : Nat) ≤ sizeLine; omega), fun S nS => ?_⟩
  have nSH := Evl.fresh_back e12 nS
  have e3 := e12.trans (Ex.new (o := HO.lst []) nS)
  refine ⟨_, rfl, a, b, xs, rfl, hs.mono e3, for_it (walk_enumB (K := K) (b := b) (a := a) (xs := xs)) (fun i σ H' => (∃ y2 y3, σ = [some (.ref a), some (.ref S), y2, y3]) ∧ Ex H H' ∧ H' S = some (.lst ((((itemsD d).take i).map nameAt).map V.str)) ∧ ∀ k x, k < i → (itemsD d)[k]? = some x → primR (itemsD d) k x = none)
    ⟨⟨none, none, rfl⟩, e3, upd_same, fun k x z => absurd z (Nat.not_lt_zero k)⟩ (fun i σ H' _ h => hs.mono h.2.1) ?_ ?_⟩
  rotate_left
  · rintro σ H2 ⟨⟨y2, y3, rfl⟩, e4, hS, al⟩
    refine q.1 ?_ H2 e4
    rw [er]
    refine scanR_none fun k x hk => ?_
    rw [Nat.zero_add]
    have := (List.getElem?_eq_some_iff.mp hk).1
    exact al k x (by rw [dwAll_len ha]; exact this) hk
  rintro i x σ H1' H2 hi ⟨⟨y2, y3, rfl⟩, e4, hS, al⟩ ⟨T, x1, y, rfl, nT, rfl, ex1, hy⟩
  obtain rfl := Option.some.inj ex1
  obtain ⟨dy, hdy, Dy⟩ := dwAll_at ha hy
  have nTS : T ≠ S := (ne_of_none hS nT).symm
  have e5 := e4.trans (Ex.new (o := HO.tup [V.int (i : Nat), y]) nT)
  have hS5 : (upd H1' T (HO.tup [V.int (i : Nat), y])) S = some (.lst ((((itemsD d).take i).map nameAt).map V.str)) := by rw [upd_ne nTS.symm]; exact hS
  have wrong : ∀ {r : List Int} {H6 : Hp}, primR (itemsD d) i dy = some r → Ex H H6 → Tells K CW E H6 r := fun {r H6} e e6 => by
    refine bad _ ?_ _ e6
    rw [er]
    exact scanR_some (k := i) (fun k' x' lt hx' => by rw [Nat.zero_add]; exact al k' x' lt hx') hdy (by rw [Nat.zero_add]; exact e)
  refine ⟨T, _, rfl, .inl (.inl upd_same), rfl, _, _, rfl, _, _, rfl, rfl, ?_⟩
  refine ⟨_, rfl, y, dy, 2, rfl, Dw.mono e5 _ _ Dy, fun H6 e6 => ⟨_, rfl, (by show (2 : Nat) ≤ sizeLine; omega), fun p1 np1 => ?_⟩⟩
  have e7 := (e5.trans e6).trans (Ex.new (o := HO.tup [V.int 1, V.int (i : Nat)]) np1)
  have hS7 := (Ex.trans e6 (Ex.new (o := HO.tup [V.int 1, V.int (i : Nat)]) np1)) _ _ hS5
  refine ⟨rowD 2 dy, p1, [1, (i : Int)], rfl, .inl (.inl upd_same), fun hb H8 e8 => ?_, fun path' hb => ?_⟩
  rotate_left
  · cases hr2 : rowD 2 dy with
    | true => rw [hr2] at hb; cases hb
    | false =>
      rw [hr2] at hb
      obtain rfl := Option.some.inj hb
      refine wrong ?_ e7
      unfold primR
      split
      · exact absurd rfl (row_ne hr2)
      · rfl
  have hr2 : rowD 2 dy = true := by
    cases hr2 : rowD 2 dy with
    | true => rfl
    | false => rw [hr2] at hb; cases hb
  have e78 := e7.trans e8
  have hS8 := e8 _ _ hS7
  obtain ⟨ra, v0, v1, d0, d1, rfl, rfl, hra, D0, D1⟩ := row2 Dy hr2
  have smr : smD (.tuple [d0, d1]) = true := sm_at (items_sm sm) hdy
  have sm0 : smD d0 = true := sm_at (ds := [d0, d1]) (i := 0) smr rfl
  have sm1 : smD d1 = true := sm_at (ds := [d0, d1]) (i := 1) smr rfl
  refine ⟨_, rfl, ra, _, _, v0, rfl, rfl, Evl.ex_t e78 hra, rfl, _, rfl, (by show (3 : Nat) ≤ sizeLine; omega), fun p2 np2 => ⟨_, rfl, ?_⟩⟩
  have x9 := Ex.new (o := HO.tup [V.int 1, V.int (i : Nat), V.int 0]) np2
  have e9 := e78.trans x9
  have hS9 := x9 _ _ hS8
  refine ⟨v0, d0, p2, S, [1, (i : Int), 0], ((itemsD d).take i).map nameAt, rfl, Dw.mono e9 _ _ D0, sm_len sm0, .inl (.inl upd_same), SqL.of hS9, fun hn H10 e10 => ?_, fun path' hn => ?_⟩
  rotate_left
  · refine wrong ?_ e9
    show (match newR d0 (((itemsD d).take i).map nameAt) [1, (i : Int), 0] with
      | some r => some r
      | none => _) = some path'
    rw [hn]
  obtain ⟨x0, rfl⟩ : ∃ x0, d0 = .str x0 := by
    cases d0 with
    | str x0 => exact ⟨x0, rfl⟩
    | _ => cases hn
  cases D0
  have rowE : primR (itemsD d) i (.tuple [.str x0, d1]) = (if numD d1 && small3 d1 then none else some [1, (i : Int), 1]) := by
    show (match newR (.str x0) (((itemsD d).take i).map nameAt) [1, (i : Int), 0] with
      | some r => some r
      | none => _) = _
    rw [hn]
  have e910 := e9.trans e10
  have hS10 := e10 _ _ hS9
  have last : ∀ H12, Ex H H12 → H12 S = some (.lst ((((itemsD d).take i).map nameAt).map V.str)) → primR (itemsD d) i (.tuple [.str x0, d1]) = none →
      (∃ y2 y3, [some (V.ref a), some (V.ref S), some (V.int (i : Nat)), some (V.ref ra)] = [some (.ref a), some (.ref S), y2, y3]) ∧ Ex H (upd H12 S (.lst ((((itemsD d).take i).map nameAt).map V.str ++ [V.str x0]))) ∧
        (upd H12 S (.lst ((((itemsD d).take i).map nameAt).map V.str ++ [V.str x0]))) S = some (.lst ((((itemsD d).take (i + 1)).map nameAt).map V.str)) ∧ ∀ k x, k < i + 1 → (itemsD d)[k]? = some x → primR (itemsD d) k x = none := fun H12 e hs12 hr0 => by
    refine ⟨⟨_, _, rfl⟩, e.mut nSH, ?_, fun k x2 hk hx2 => ?_⟩
    · rw [upd_same, take_succ nameAt hdy, List.map_append]
      rfl
    · rcases Nat.lt_or_ge k i with lt | ge
      · exact al k x2 lt hx2
      · have ek : k = i := by omega
        subst ek
        rw [hdy] at hx2
        obtain rfl := Option.some.inj hx2
        exact hr0
  have ln9 : ((((itemsD d).take i).map nameAt).map V.str).length < sizeLine := by
    rw [List.length_map, List.length_map, List.length_take]
    have := items_len d
    omega
  refine ⟨_, rfl, ra, _, _, v1, rfl, rfl, Evl.ex_t e910 hra, rfl, v1, d1, rfl, Dw.mono e910 _ _ D1, fun H11 e11 => ⟨_, rfl, ?_⟩⟩
  have e10' := e910.trans e11
  have hS11 := e11 _ _ hS10
  have rowE' : ∀ {c : Bool}, (numD d1 && small3 d1) = c → primR (itemsD d) i (.tuple [.str x0, d1]) = if c then none else some [1, (i : Int), 1] := fun {c} e => by rw [rowE, e]
  refine ite2 (fun z => ?_) (fun z => ?_)
  · obtain ⟨j, rfl⟩ : ∃ j, d1 = .int j := by
      cases d1 with
      | int j => exact ⟨j, rfl⟩
      | _ => cases z
    cases D1
    refine ⟨_, rfl, ra, _, _, .int j, rfl, rfl, Evl.ex_t e10' hra, rfl, _, _, rfl, rfl, _, rfl, (by show (3 : Nat) ≤ sizeLine; omega), fun p3 np3 => ?_⟩
    have x12 := Ex.new (o := HO.tup [V.int 1, V.int (i : Nat), V.int 1]) np3
    have e12 := e10'.trans x12
    have hS12 := x12 _ _ hS11
    have rE := rowE' (c := decide (j ≤ 2)) (by rw [z, Bool.true_and]; rfl)
    refine ⟨decide (j ≤ 2), p3, [1, (i : Int), 1], rfl, .inl (.inl upd_same), fun hw H13 e13 => ?_, fun path' hw => wrong (rE.trans hw) e12⟩
    exact ⟨_, rfl, .inl ⟨rfl, _, SqL.of (e13 _ _ hS12)⟩, _, rfl, ra, _, _, .str x0, rfl, rfl, Evl.ex_t (e12.trans e13) hra, rfl, S, _, _, rfl, rfl, e13 _ _ hS12, ln9, last H13 (e12.trans e13) (e13 _ _ hS12) (rE.trans hw)⟩
  · have zf : numD d1 = false := Bool.eq_false_iff.mpr z
    refine ⟨_, rfl, (by show (3 : Nat) ≤ sizeLine; omega), fun p3 np3 => ?_⟩
    have x12 := Ex.new (o := HO.tup [V.int 1, V.int (i : Nat), V.int 1]) np3
    have e12 := e10'.trans x12
    refine ⟨false, p3, [1, (i : Int), 1], rfl, .inl (.inl upd_same), fun hw => (by cases hw), fun path' hw => wrong ((rowE' (c := false) (by rw [zf, Bool.false_and])).trans hw) e12⟩
abbrev n_check_plain_names : List Str := ["names", "path", "seen", "k", "name"]
theorem sc_check_plain_names : FnScope n_check_plain_names ["names", "path"] (defScope s_check_plain_names) := ⟨rfl, rfl, rfl, by decide +kernel, rfl, by decide +kernel, by decide +kernel⟩
theorem ok_check_plain_names (F : Fun K "check_plain_names" "check_plain_names" s_check_plain_names f fd) (m_enumerate : mg "enumerate" = none) (h1 : Has P w K mg base 1 "is_list" ["value"] (spIsList K w)) (h3 : HasN P w K mg base 3 "require" ["holds", "path"] (spRequire K CW))
    (h4 : HasN P w K mg base 4 "check_new_name" ["value", "path", "earlier"] (spNewName K w CW)) :
    FnOk P w K mg base (L2N.CX P w) 5 f fd ["names", "path"] (spPlain K w CW) := by
  obtain ⟨f1, fd1, G_is_list, m_is_list, k_is_list, b_is_list⟩ := h1
  obtain ⟨f3, fd3, G_require, m_require, k_require, b_require⟩ := h3
  obtain ⟨f4, fd4, G_check_new_name, m_check_new_name, k_check_new_name, b_check_new_name⟩ := h4
  refine okN F sc_check_plain_names (fun vs H Q E h => ?_) (fun cdv A outer s H vs Q E hr h => ?_)
  · obtain ⟨v, d, p, n, rfl, _⟩ := h
    rfl
  obtain ⟨v, d, p, n, rfl, hd, sm, l9, hp, q⟩ := h
  refine ⟨_, (pss_cons (ps_expr (pe_callSD G_require (hr.mono (by omega)) (by rfl) m_require k_require b_require .nil (fun σ => L2N.passAt (L2N.takes_of rfl rfl rfl rfl) σ) (pa_cons (pe_call G_is_list (hr.mono (by omega)) (by rfl) m_is_list k_is_list b_is_list .nil pass0 (pa_cons (pv 0) pa_nil)) (pa_cons (pv 1) pa_nil))))
  (pss_cons (ps_set (i := 2) sc_check_plain_names.nd rfl (.inl rfl) (pe_lst pa_nil))
  (pss_one (ps_for (passes_of rfl) rfl (pi_enumB (K := K) (by rfl) m_enumerate (pa_cons (pv 0) pa_nil)) (pg_tup rfl (pgs_cons (pg_name (i := 3) sc_check_plain_names.nd rfl (.inl rfl)) (pgs_cons (pg_name (i := 4) sc_check_plain_names.nd rfl (.inl rfl)) pgs_nil)))
  (pss_cons (ps_expr (pe_callSD G_check_new_name (hr.mono (by omega)) (by rfl) m_check_new_name k_check_new_name b_check_new_name .nil (fun σ => L2N.passAt (L2N.takes_of rfl rfl rfl rfl) σ) (pa_cons (pv 4) (pa_cons (pe_op (op_catAK (K := K)) (pv 1) (pe_tup (pa_cons (pv 3) pa_nil))) (pa_cons (pv 2) pa_nil)))))
  (pss_one (ps_expr (pe_bm PySem.F.plainAttrs_list PySem.F.slot_list_append PySem.F.type_list_append mt_append (pv 2) (pa_cons (pv 4) pa_nil))))))))), ?_⟩
  have bad : ∀ path', plainR n d = some path' → ∀ H1, Ex H H1 → Tells K CW E H1 path' := fun path' e H1 e1 => (q.2 path' e).ex e1
  have sz : sizeLine = 16777216 := sizeLine_eq
  refine ⟨_, rfl, v, d, rfl, hd, fun H0 e0 => ⟨_, rfl, ?_⟩⟩
  refine ⟨lstD d || tupD d, p, [n], rfl, Evl.ex_t e0 hp, fun hb H1 e2 => ?_, fun path' hb => ?_⟩
  rotate_left
  · cases hl : (lstD d || tupD d) with
    | true => rw [hl] at hb; cases hb
    | false =>
      rw [hl] at hb
      obtain rfl := Option.some.inj hb
      refine bad _ ?_ _ e0
      unfold plainR
      rw [hl]
      rfl
  have hl : (lstD d || tupD d) = true := by
    cases hl : (lstD d || tupD d) with
    | true => rfl
    | false => rw [hl] at hb; cases hb
  have er : plainR n d = scanR (fun k x => newR x (((itemsD d).take k).map strOf) [n, (k : Int)]) 0 (itemsD d) := by
    unfold plainR
    rw [hl]
    rfl
  obtain ⟨a, b, xs, rfl, hs, ha⟩ := dw_seq hd hl
  have lx : xs.length ≤ 900 := by rw [dwAll_len ha]; have := items_len d; omega
  have e12 := e0.trans e2
  refine ⟨(by show (0 : Nat) ≤ sizeLine; omega), fun S nS => ?_⟩
  have nSH := Evl.fresh_back e12 nS
  have e3 := e12.trans (Ex.new (o := HO.lst []) nS)
  refine ⟨_, rfl, a, b, xs, rfl, hs.mono e3, for_it (walk_enumB (K := K) (b := b) (a := a) (xs := xs)) (fun i σ H' => (∃ y2 y3, σ = [some (.ref a), some (.ref p), some (.ref S), y2, y3]) ∧ Ex H H' ∧ H' S = some (.lst ((((itemsD d).take i).map strOf).map V.str)) ∧ ∀ k x, k < i → (itemsD d)[k]? = some x → newR x (((itemsD d).take k).map strOf) [n, (k : Int)] = none)
    ⟨⟨none, none, rfl⟩, e3, upd_same, fun k x z => absurd z (Nat.not_lt_zero k)⟩ (fun i σ H' _ h => hs.mono h.2.1) ?_ ?_⟩
  rotate_left
  · rintro σ H2 ⟨⟨y2, y3, rfl⟩, e4, hS, al⟩
    refine q.1 ?_ H2 e4
    rw [er]
    refine scanR_none fun k x hk => ?_
    rw [Nat.zero_add]
    have := (List.getElem?_eq_some_iff.mp hk).1
    exact al k x (by rw [dwAll_len ha]; exact this) hk
  rintro i x σ H1' H2 hi ⟨⟨y2, y3, rfl⟩, e4, hS, al⟩ ⟨T, x1, y, rfl, nT, rfl, ex1, hy⟩
  obtain rfl := Option.some.inj ex1
  obtain ⟨dy, hdy, Dy⟩ := dwAll_at ha hy
  have nTS : T ≠ S := (ne_of_none hS nT).symm
  have e5 := e4.trans (Ex.new (o := HO.tup [V.int (i : Nat), y]) nT)
  have hS5 : (upd H1' T (HO.tup [V.int (i : Nat), y])) S = some (.lst ((((itemsD d).take i).map strOf).map V.str)) := by rw [upd_ne nTS.symm]; exact hS
  refine ⟨T, _, rfl, .inl (.inl upd_same), rfl, _, _, rfl, _, _, rfl, rfl, ?_⟩
  refine ⟨_, rfl, catP (p := p) (path := [n]) (k := (i : Int)) rfl rfl (Evl.ex_t e5 hp) (by show (1 : Nat) ≤ 10; decide) fun P0 H6 e6 hP => ⟨_, rfl, ?_⟩⟩
  have e56 := e5.trans e6
  refine ⟨y, dy, P0, S, [n, (i : Int)], ((itemsD d).take i).map strOf, rfl, Dw.mono e56 _ _ Dy, sm_len (sm_at (items_sm sm) hdy), hP, SqL.of (e6 _ _ hS5), fun hn H8 e8 => ?_, fun path' hn => ?_⟩
  rotate_left
  · refine bad _ ?_ _ e56
    rw [er]
    exact scanR_some (k := i) (fun k' x' lt hx' => by rw [Nat.zero_add]; exact al k' x' lt hx') hdy (by rw [Nat.zero_add]; exact hn)
  obtain ⟨x0, rfl⟩ : ∃ x0, dy = .str x0 := by
    cases dy with
    | str x0 => exact ⟨x0, rfl⟩
    | _ => cases hn
  cases Dy
  have hS8 := e8 _ _ (e6 _ _ hS5)
  have ln9 : ((((itemsD d).take i).map strOf).map V.str).length < sizeLine := by
    rw [List.length_map, List.length_map, List.length_take]
    have := items_len d
    omega
  refine ⟨_, rfl, .inl ⟨rfl, _, SqL.of hS8⟩, _, rfl, S, _, _, rfl, rfl, hS8, ln9, ⟨_, _, rfl⟩, (e56.trans e8).mut nSH, ?_, fun k x2 hk hx2 => ?_⟩
  · rw [upd_same, take_succ strOf hdy, List.map_append]
    rfl
  · rcases Nat.lt_or_ge k i with lt | ge
    · exact al k x2 lt hx2
    · have ek : k = i := by omega
      subst ek
      rw [hdy] at hx2
      obtain rfl := Option.some.inj hx2
      exact hn
end
end L2.Vf.K01
/-! Tuples whose objects are told: displays, sums, slices, tuple(x). -/
namespace L2.Vf
open PySem PySem.Spec PyProof.Rows HT
/-- a tuple whose object is told -/
def TupF (H : Hp) (a : Addr) (xs : List V) : Prop := ∃ its, H a = some (.frz (tupO its) (.tup xs)) ∧ Vals xs its
theorem TupF.sq {K : PySem.W.Frag} {H : Hp} {a : Addr} {xs : List V} (h : TupF H a xs) : SqT K H a xs := by
  obtain ⟨its, h1, _⟩ := h
  exact .inl (.inr ⟨_, h1⟩)
theorem TupF.ex {H H' : Hp} {a : Addr} {xs : List V} (h : TupF H a xs) (e : Evl.Ex H H') : TupF H' a xs := by
  obtain ⟨its, h1, h2⟩ := h
  exact ⟨its, e _ _ h1, h2⟩
section
variable {X : Cx} {K : PySem.W.Frag}
/-- (e, ..) -/
def tTupF (t : TA) : TE := fun σ H Q => t σ H fun xs H1 => xs.length ≤ sizeLine ∧ ∀ p its, Vals xs its → H1 p = none → Q (.ref p) (upd H1 p (.frz (tupO its) (.tup xs)))
theorem pe_tupF {es : List Expr} {pos : Pos} {t : TA} {x1} (h : PA X es t) : PE X (.Tuple es x1 pos) (tTupF t) := by
  refine ⟨fun pins s σ H Q I hq => ?_⟩
  refine wpAny_Tuple_spliced (thn (h.run pos pins s σ H _ I hq) fun us s1 ⟨xs, H1, I1, r, z, q⟩ => ⟨by rw [← r.length]; exact z, ?_⟩)
  have hf : H1 s1.heap.objs.size = none := I1.hok.fresh (Nat.le_refl _)
  refine ⟨.ref s1.heap.objs.size, upd H1 s1.heap.objs.size (.frz (tupO us) (.tup xs)), I1.laid (t' := s1.toks) (fun b u e => Heap.get?_push_of_some _ e) (Nat.le_refl _) ?_, rfl, q _ us r hf⟩
  exact (show ObjOk X.prog X.w _ _ _ (.frz (tupO us) (.tup xs)) from ⟨Heap.get?_push_size _ rfl, z, us, r, IsTup.new _ _⟩)
/-- t + u -/
def rCatF (K : PySem.W.Frag) : R2 := fun x y H Q => ∃ a b xs ys, x = .ref a ∧ y = .ref b ∧ SqT K H a xs ∧ SqT K H b ys ∧ xs.length + ys.length ≤ sizeLine ∧
  (xs = [] → Q (.ref b) H) ∧ (xs ≠ [] → ys = [] → Q (.ref a) H) ∧ (xs ≠ [] → ys ≠ [] → ∀ p its, Vals (xs ++ ys) its → H p = none → Q (.ref p) (upd H p (.frz (tupO its) (.tup (xs ++ ys)))))
theorem op_catF (hK : X.K = K := by rfl) : OpR X (binaryOp .Add) (rCatF K) := by
  subst hK
  intro pins s σ H x y v u Q I rx ry h
  obtain ⟨a, b, xs, ys, rfl, rfl, ha, hb, hz, q0, q1, q2⟩ := h
  cases rx
  cases ry
  obtain ⟨its, r1, p1, _⟩ := I.tuple ha
  obtain ⟨its2, r2, p2, _⟩ := I.tuple hb
  by_cases hx : xs = []
  · subst hx
    cases r1
    exact cat_tup0 p1 p2 ⟨.ref b, H, I, rfl, q0 rfl⟩
  · refine HT.cat_tup p1 p2 (fun z => hx (r1.nil_iff.mp z)) (fun z => ⟨.ref a, H, I, rfl, q1 hx (r2.nil_iff.mp z)⟩) (fun z => ?_) (by rw [← r1.length, ← r2.length]; exact hz)
    refine ⟨.ref s.heap.objs.size, _, I.laid (t' := s.toks) (o := .frz (tupO (its ++ its2)) (.tup (xs ++ ys))) (fun b ob q => Heap.get?_push_of_some _ q) (Nat.le_refl _) ?_, rfl, q2 hx (fun w => z (r2.nil_iff.mpr w)) _ _ (r1.append r2) (I.hok.fresh (Nat.le_refl _))⟩
    exact (show ObjOk X.prog X.w _ _ _ (.frz (tupO (its ++ its2)) (.tup (xs ++ ys))) from ⟨Heap.get?_push_size _ rfl, by rw [List.length_append]; exact hz, _, r1.append r2, IsTup.new _ _⟩)
/-- t[lo:hi] -/
def rSlF (K : PySem.W.Frag) : V → Option Int → Option Int → Hp → VK → Prop := fun x lo hi H Q => ∃ a xs, x = .ref a ∧ SqT K H a xs ∧
  (HT.sIx xs.length 0 lo = 0 ∧ HT.sIx xs.length xs.length hi = xs.length → Q (.ref a) H) ∧ (¬ (HT.sIx xs.length 0 lo = 0 ∧ HT.sIx xs.length xs.length hi = xs.length) → ∀ p its, Vals (cutV xs lo hi) its → H p = none → Q (.ref p) (upd H p (.frz (tupO its) (.tup (cutV xs lo hi)))))
theorem sl_tupF (hK : X.K = K := by rfl) : SlR X (rSlF K) := by
  subst hK
  intro pins s σ H x v vl vu lo hi sl Q I rx hs pl pu h
  obtain ⟨a, xs, rfl, hx, q1, q2⟩ := h
  cases rx
  obtain ⟨its, r, ht, hz⟩ := I.tuple hx
  have hlen : its.toArray.size = xs.length := by rw [List.size_toArray]; exact r.length.symm
  refine ⟨"tuple", _, PyProof.Rows.slot_tuple_getitem.lookup, ht.typeIs, ?_⟩
  by_cases hw : HT.sIx xs.length 0 lo = 0 ∧ HT.sIx xs.length xs.length hi = xs.length
  · exact getItem_tuple_whole ht hs pl pu (by rw [hlen]; exact hw) ⟨.ref a, H, I, rfl, q1 hw⟩
  · refine HT.getItem_tuple_cut ht hs pl pu (by rw [hlen]; exact hw) ?_ (by rw [hlen]; exact hz)
    rw [hlen]
    have rr := (r.drop (HT.sIx xs.length 0 lo)).take (HT.sIx xs.length xs.length hi - HT.sIx xs.length 0 lo)
    refine ⟨.ref s.heap.objs.size, _, I.laid (t' := s.toks) (o := .frz (tupO _) (.tup (cutV xs lo hi))) (fun b ob q => Heap.get?_push_of_some _ q) (Nat.le_refl _) ?_, rfl, q2 hw _ _ rr (I.hok.fresh (Nat.le_refl _))⟩
    exact (show ObjOk X.prog X.w _ _ _ (.frz (tupO _) (.tup (cutV xs lo hi))) from ⟨Heap.get?_push_size _ rfl, Nat.le_trans (cutV_length xs lo hi) hz, _, rr, IsTup.new _ _⟩)
/-- tuple(x) of a list or a tuple -/
def rTupF (K : PySem.W.Frag) : List V → Hp → VK → Prop := fun zs H Q => ∃ p ys, zs = [.ref p] ∧ ((SqL K H p ys ∧ ∀ l its, Vals ys its → H l = none → Q (.ref l) (upd H l (.frz (tupO its) (.tup ys)))) ∨ (SqT K H p ys ∧ Q (.ref p) H))
theorem call_tupF (hK : X.K = K := by rfl) : CallR X (.type "tuple") (rTupF K) := by
  subst hK
  intro pins s σ H xs us Q I r h
  obtain ⟨p, ys, ex, h | h⟩ := h
  · exact call_tupleF pins s σ H xs us Q I r ⟨p, ys, ex, h⟩
  · exact call_tupleT pins s σ H xs us Q I r ⟨p, ys, ex, h⟩
end
end L2.Vf
/-! A book, made of any data. -/
namespace L2.Vf.K01
open PySem PySem.Spec PyProof.Rows
open Evl (Ex Ev EvT EvL EvA)
abbrev s_BadBook : Stmt := top 2
abbrev s_BadBook___init__ : Stmt := inClass s_BadBook 0
abbrev s_Book : Stmt := top 21
abbrev s_Book___init__ : Stmt := inClass s_Book 0
/-- a right book -/
structure Bk where
  sorts : List (Str × List Str)
  prims : List (Str × Nat)
  ports : List Str
  reasons : List Str
def sortD (x : Str × List Str) : PyData := .tuple [.str x.1, .tuple (x.2.map .str)]
def primD (x : Str × Nat) : PyData := .tuple [.str x.1, .int (x.2 : Int)]
def whyS (rs : List Str) : Str × List Str := ("why", "ended" :: "closed" :: rs)
structure Right (d0 d1 d2 d3 : PyData) (b : Bk) : Prop where
  l0 : (lstD d0 || tupD d0) = true
  l1 : (lstD d1 || tupD d1) = true
  l2 : (lstD d2 || tupD d2) = true
  l3 : (lstD d3 || tupD d3) = true
  i0 : itemsD d0 = b.sorts.map sortD
  i1 : itemsD d1 = b.prims.map primD
  i2 : itemsD d2 = b.ports.map .str
  i3 : itemsD d3 = b.reasons.map .str
  n0 : (b.sorts.map (·.1)).Nodup
  y0 : ∀ x ∈ b.sorts, x.1 ∉ kept
  n1 : (b.prims.map (·.1)).Nodup
def bookR (d0 d1 d2 d3 : PyData) : Option (List Int) := match sortsR d0 with
  | some r => some r
  | none => match primsR d1 with
    | some r => some r
    | none => match plainR 2 d2 with
      | some r => some r
      | none => plainR 3 d3
theorem scan_all {α : Type} {f : Nat → α → Option (List Int)} : ∀ {xs : List α} {i : Nat}, scanR f i xs = none → ∀ k x, xs[k]? = some x → f (i + k) x = none
  | x :: xs, i, h, 0, y, e => by
    obtain rfl := Option.some.inj e
    unfold scanR at h
    show f i x = none
    cases e2 : f i x with
    | none => rfl
    | some r => rw [e2] at h; cases h
  | x :: xs, i, h, k + 1, y, e => by
    unfold scanR at h
    cases e2 : f i x with
    | none =>
      rw [e2] at h
      have := scan_all (i := i + 1) h k y (by simpa using e)
      rwa [show i + 1 + k = i + (k + 1) by omega] at this
    | some r => rw [e2] at h; cases h
theorem inV_str {x : Str} {l : List Str} : inV (.str x) (l.map V.str) = decide (x ∈ l) := by
  unfold inV
  rw [List.any_map]
  refine Bool.eq_iff_iff.mpr ?_
  rw [List.any_eq_true, decide_eq_true_iff]
  constructor
  · rintro ⟨y, hy, e⟩
    have e' : (y == x) = true := e
    rw [← beq_iff_eq.mp e']
    exact hy
  · intro h
    exact ⟨x, h, beq_self_eq_true x⟩
theorem nodup_of {α : Type} {g : α → Str} {xs : List α} (h : ∀ k x, xs[k]? = some x → g x ∉ (xs.take k).map g) : (xs.map g).Nodup := by
  rw [List.nodup_iff_pairwise_ne, List.pairwise_iff_getElem]
  intro i j hi hj lt
  rw [List.length_map] at hi hj
  rw [List.getElem_map, List.getElem_map]
  intro e
  refine h j _ (List.getElem?_eq_getElem hj) ?_
  rw [← e]
  exact List.mem_map_of_mem (List.mem_take_iff_getElem.mpr ⟨i, by omega, rfl⟩)
theorem newR_none {d : PyData} {seen : List Str} {path : List Int} (h : newR d seen path = none) : ∃ x, d = .str x ∧ wordT x = true ∧ x ∉ kept ∧ x ∉ seen := by
  cases d with
  | str x =>
    have h' : (if nameD (.str x) && !inV (.str x) (seen.map V.str) then none else some path) = (none : Option (List Int)) := h
    by_cases c : (nameD (.str x) && !inV (.str x) (seen.map V.str)) = true
    · rw [Bool.and_eq_true] at c
      obtain ⟨c1, c2⟩ := c
      have c1' : (wordT x && !inV (.str x) (kept.map V.str)) = true := c1
      rw [Bool.and_eq_true, inV_str] at c1'
      rw [inV_str] at c2
      exact ⟨x, rfl, c1'.1, by simpa using c1'.2, by simpa using c2⟩
    · rw [if_neg c] at h'
      cases h'
  | _ => cases h
theorem sw_none {d : PyData} {path : List Int} (h : swR d path = none) : ∃ ws : List Str, d = .tuple (ws.map .str) := by
  unfold swR at h
  split at h
  · cases h
  · rename_i ds _
    refine ⟨ds.map strOf, ?_⟩
    rw [List.map_map]
    congr 1
    refine (List.map_id' _).symm.trans (List.map_congr_left fun d hd => ?_)
    obtain ⟨k, hk⟩ := List.getElem?_of_mem hd
    have w := scan_all h k d hk
    rw [Nat.zero_add] at w
    unfold wordR at w
    cases e : wordD d with
    | false => rw [e, Bool.false_and] at w; cases w
    | true =>
      obtain ⟨x, rfl, _⟩ := wordD_str e
      rfl
  · cases h
def toSort : PyData → Str × List Str
  | .tuple [a, b] => (strOf a, (itemsD b).map strOf)
  | _ => ("", [])
def natOf : PyData → Nat
  | .int i => i.toNat
  | _ => 0
def toPrim : PyData → Str × Nat
  | .tuple [a, b] => (strOf a, natOf b)
  | _ => ("", 0)
theorem right_of {d0 d1 d2 d3 : PyData} (h : bookR d0 d1 d2 d3 = none) : ∃ b, Right d0 d1 d2 d3 b := by
  unfold bookR at h
  cases h0 : sortsR d0 with
  | some r => rw [h0] at h; cases h
  | none =>
  rw [h0] at h
  cases h1 : primsR d1 with
  | some r => rw [h1] at h; cases h
  | none =>
  rw [h1] at h
  cases h2 : plainR 2 d2 with
  | some r => rw [h2] at h; cases h
  | none =>
  rw [h2] at h
  have h3 : plainR 3 d3 = none := h
  have L0 : (lstD d0 || tupD d0) = true := by
    cases e : (lstD d0 || tupD d0) with
    | true => rfl
    | false => unfold sortsR at h0; rw [e] at h0; cases h0
  have L1 : (lstD d1 || tupD d1) = true := by
    cases e : (lstD d1 || tupD d1) with
    | true => rfl
    | false => unfold primsR at h1; rw [e] at h1; cases h1
  have L2 : (lstD d2 || tupD d2) = true := by
    cases e : (lstD d2 || tupD d2) with
    | true => rfl
    | false => unfold plainR at h2; rw [e] at h2; cases h2
  have L3 : (lstD d3 || tupD d3) = true := by
    cases e : (lstD d3 || tupD d3) with
    | true => rfl
    | false => unfold plainR at h3; rw [e] at h3; cases h3
  unfold sortsR at h0
  rw [L0, if_pos rfl] at h0
  unfold primsR at h1
  rw [L1, if_pos rfl] at h1
  unfold plainR at h2 h3
  rw [L2, if_pos rfl] at h2
  rw [L3, if_pos rfl] at h3
  have r0 : ∀ k x, (itemsD d0)[k]? = some x → ∃ y ws, x = sortD (y, ws) ∧ y ∉ kept ∧ y ∉ ((itemsD d0).take k).map nameAt := fun k x hk => by
    have w := scan_all h0 k x hk
    rw [Nat.zero_add] at w
    unfold sortR at w
    split at w
    · rename_i a b
      cases e : newR a (((itemsD d0).take k).map nameAt) [0, (k : Int), 0] with
      | some r => rw [e] at w; cases w
      | none =>
        rw [e] at w
        obtain ⟨y, rfl, _, k1, k2⟩ := newR_none e
        obtain ⟨ws, rfl⟩ := sw_none w
        exact ⟨y, ws, rfl, k1, k2⟩
    · cases w
  have r1 : ∀ k x, (itemsD d1)[k]? = some x → ∃ y n, x = primD (y, n) ∧ y ∉ ((itemsD d1).take k).map nameAt := fun k x hk => by
    have w := scan_all h1 k x hk
    rw [Nat.zero_add] at w
    unfold primR at w
    split at w
    · rename_i a b
      cases e : newR a (((itemsD d1).take k).map nameAt) [1, (k : Int), 0] with
      | some r => rw [e] at w; cases w
      | none =>
        rw [e] at w
        obtain ⟨y, rfl, _, k1, k2⟩ := newR_none e
        cases b with
        | int i =>
          have w' : (if decide (0 ≤ i) && decide (i ≤ 2) then none else some [1, (k : Int), 1]) = (none : Option (List Int)) := w
          by_cases c : (decide (0 ≤ i) && decide (i ≤ 2)) = true
          · rw [Bool.and_eq_true] at c
            obtain ⟨n, rfl⟩ := Int.eq_ofNat_of_zero_le (of_decide_eq_true c.1)
            exact ⟨y, n, rfl, k2⟩
          · rw [if_neg c] at w'; cases w'
        | _ => cases w
    · cases w
  have rs : ∀ {d : PyData} {n : Int}, scanR (fun k x => newR x (((itemsD d).take k).map strOf) [n, (k : Int)]) 0 (itemsD d) = none → itemsD d = ((itemsD d).map strOf).map .str := fun {d n} hd => by
    rw [List.map_map]
    refine (List.map_id' _).symm.trans (List.map_congr_left fun x hx => ?_)
    obtain ⟨k, hk⟩ := List.getElem?_of_mem hx
    obtain ⟨y, rfl, _⟩ := newR_none (scan_all hd k x hk)
    rfl
  refine ⟨⟨(itemsD d0).map toSort, (itemsD d1).map toPrim, (itemsD d2).map strOf, (itemsD d3).map strOf⟩, L0, L1, L2, L3, ?_, ?_, rs h2, rs h3, ?_, ?_, ?_⟩
  · show itemsD d0 = ((itemsD d0).map toSort).map sortD
    rw [List.map_map]
    refine (List.map_id' _).symm.trans (List.map_congr_left fun x hx => ?_)
    obtain ⟨k, hk⟩ := List.getElem?_of_mem hx
    obtain ⟨y, ws, rfl, _⟩ := r0 k x hk
    show sortD (y, ws) = sortD (y, (ws.map PyData.str).map strOf)
    rw [List.map_map]
    congr 2
    exact ((List.map_congr_left fun _ _ => rfl).trans (List.map_id' _)).symm
  · show itemsD d1 = ((itemsD d1).map toPrim).map primD
    rw [List.map_map]
    refine (List.map_id' _).symm.trans (List.map_congr_left fun x hx => ?_)
    obtain ⟨k, hk⟩ := List.getElem?_of_mem hx
    obtain ⟨y, n, rfl, _⟩ := r1 k x hk
    rfl
  · show (((itemsD d0).map toSort).map (·.1)).Nodup
    rw [List.map_map]
    have e : (itemsD d0).map ((fun x : Str × List Str => x.1) ∘ toSort) = (itemsD d0).map nameAt := List.map_congr_left fun x hx => by
      obtain ⟨k, hk⟩ := List.getElem?_of_mem hx
      obtain ⟨y, ws, rfl, _⟩ := r0 k x hk
      rfl
    rw [e]
    refine nodup_of fun k x hk => ?_
    obtain ⟨y, ws, rfl, _, k2⟩ := r0 k x hk
    exact k2
  · intro x hx
    obtain ⟨d, hd, rfl⟩ := List.mem_map.mp hx
    obtain ⟨k, hk⟩ := List.getElem?_of_mem hd
    obtain ⟨y, ws, rfl, k1, _⟩ := r0 k d hk
    exact k1
  · show (((itemsD d1).map toPrim).map (·.1)).Nodup
    rw [List.map_map]
    have e : (itemsD d1).map ((fun x : Str × Nat => x.1) ∘ toPrim) = (itemsD d1).map nameAt := List.map_congr_left fun x hx => by
      obtain ⟨k, hk⟩ := List.getElem?_of_mem hx
      obtain ⟨y, n, rfl, _⟩ := r1 k x hk
      rfl
    rw [e]
    refine nodup_of fun k x hk => ?_
    obtain ⟨y, n, rfl, k2⟩ := r1 k x hk
    exact k2
/-- what the text says of the class of wrong books -/
structure BBTxt (K : PySem.W.Frag) (mg : Str → Option Value) (CB fI : Addr) : Prop where
  o : OexC K CB
  x : Xcl K CB veL "ValueError.__new__"
  no : PySem.W.findIn K (.ref CB) "path" = some none
  iC : PySem.W.findIn K (.ref CB) "__init__" = some (some (.ref fI))
  tI : PySem.W.typeIn K (.ref fI) = some (.type "function")
  gB : mg "BadBook" = some (.ref CB)
  fx : XfC K CB
def spBBInit (K : PySem.W.Frag) (CB : Addr) : Sp := fun vs H Q _ => ∃ (a p : Addr) (xs : List V), vs = [.ref a, .ref p] ∧ H a = some (exo a CB none) ∧ SqT K H p xs ∧
  ∀ dx, H dx = none → dx ≠ a → Q .non (upd (upd H dx (exd dx [("path", .ref p)])) a (exo a CB (some dx)))
structure BkTxt (K : PySem.W.Frag) (C : Addr) : Prop where
  cl : Cls K C
  n0 : NoAttr K C "_sorts"
  n1 : NoAttr K C "_primitives"
  n2 : NoAttr K C "_ports"
  n3 : NoAttr K C "_reasons"
  n4 : NoAttr K C "_words"
  n5 : NoAttr K C "_counts"
section
variable {P : Program} {w : World} {K : PySem.W.Frag} {mg : Str → Option Value} {base : Heap} {f C CW CB CA fW fB : Addr} {fd fdB : FuncData}
abbrev n_BadBook___init__ : List Str := ["self", "path"]
theorem sc_BadBook___init__ : FnScope n_BadBook___init__ ["self", "path"] (defScope s_BadBook___init__) := ⟨rfl, rfl, rfl, by decide +kernel, rfl, by decide +kernel, by decide +kernel⟩
theorem ok_bbinit (F : Fun K "__init__" "BadBook.__init__" s_BadBook___init__ f fd) (B : BBTxt K mg CB f) (BI : BaseI K CA "ValueError.__init__") (g_ActorsError : mg "ActorsError" = some (.ref CA)) (m_tuple : mg "tuple" = none) :
    L2H.FnH P w K mg base CX0 1 f fd ["self", "path"] (spBBInit K CB) := by
  refine okH F sc_BadBook___init__ (fun vs H Q E h => ?_) (fun cdv A outer s H vs Q E pp hot hr h => ?_)
  · obtain ⟨a, p, xs, rfl, _⟩ := h
    rfl
  obtain ⟨a, p, xs, rfl, ha, hp, q⟩ := h
  refine ⟨_, (pss_cons (ps_expr (pe_baseI PySem.F.excBase_ValueError BI (by rfl) g_ActorsError (pa_cons (pv 0) (pa_cons pe_str pa_nil))))
  (pss_one (ps_first (newId := "ValueError.__new__") VfX.tlVE (pv 0) (pe_callTy (call_tupF (K := K)) (by rfl) m_tuple (by decide +kernel) (pa_cons (pv 1) pa_nil))))), ?_⟩
  exact ⟨_, rfl, a, CB, _, rfl, by decide, B.x, ha, _, rfl, p, xs, rfl, .inr ⟨hp, _, rfl, a, CB, rfl, B.x, B.no, ha, fun dx n1 n2 => q dx n1 n2⟩⟩
end
end L2.Vf.K01
/-! A book, made of any data: what stands there. -/
namespace L2.Vf.K01
open PySem PySem.Spec PyProof.Rows
open Evl (Ex Ev EvT EvL EvA)
theorem pairedTo {α β : Type} {F G : α → β → Prop} : ∀ {l₁ : List α} {l₂ : List β}, Paired F l₁ l₂ → (∀ a b, F a b → G a b) → Paired G l₁ l₂
  | _, _, .nil, _ => .nil
  | _, _, .cons h t, g => .cons (g _ _ h) (pairedTo t g)
theorem pairedApp {α β : Type} {F : α → β → Prop} : ∀ {l₁ : List α} {l₂ : List β} {x : α} {y : β}, Paired F l₁ l₂ → F x y → Paired F (l₁ ++ [x]) (l₂ ++ [y])
  | _, _, _, _, .nil, h => .cons h .nil
  | _, _, _, _, .cons h t, g => .cons h (pairedApp t g)
theorem merge_nodup : ∀ {rows acc : List Mv}, ((acc ++ rows).map (·.1)).Nodup → mergeM acc rows = acc ++ rows
  | [], acc, _ => by rw [List.append_nil]; rfl
  | r :: rows, acc, h => by
    have e : acc ++ r :: rows = (acc ++ [r]) ++ rows := by simp
    have new : r.1 ∉ acc.map (·.1) := fun z => by
      rw [List.map_append, List.nodup_append] at h
      exact h.2.2 r.1 z r.1 (by simp) rfl
    show mergeM (pM acc r.1 r.2.1 r.2.2) rows = _
    rw [pM_new new, e]
    exact merge_nodup (by rw [← e]; exact h)
/-- all tuples stay -/
abbrev KT (K : PySem.W.Frag) (H H' : Hp) : Prop := ∀ {a : Addr} {xs : List V}, SqT K H a xs → SqT K H' a xs
def SortV (K : PySem.W.Frag) (H : Hp) (v : V) (x : Str × List Str) : Prop := ∃ a c, v = .ref a ∧ SqT K H a [.str x.1, .ref c] ∧ SqT K H c (x.2.map V.str)
def PrimV (K : PySem.W.Frag) (H : Hp) (v : V) (x : Str × Nat) : Prop := ∃ a, v = .ref a ∧ SqT K H a [.str x.1, .int (x.2 : Int)]
def WdR (K : PySem.W.Frag) (H : Hp) (q : Mv) (x : Str × List Str) : Prop := q.1 = .text x.1 ∧ ∃ c, q.2.2 = .ref c ∧ SqT K H c (x.2.map V.str)
def CtR (q : Mv) (x : Str × Nat) : Prop := q.1 = .text x.1 ∧ q.2.2 = .int (x.2 : Int)
section
variable {K : PySem.W.Frag} {H H' : Hp} {w : World}
theorem SortV.to (k : KT K H H') {v : V} {x : Str × List Str} (h : SortV K H v x) : SortV K H' v x := by
  obtain ⟨a, c, h1, h2, h3⟩ := h
  exact ⟨a, c, h1, k h2, k h3⟩
theorem PrimV.to (k : KT K H H') {v : V} {x : Str × Nat} (h : PrimV K H v x) : PrimV K H' v x := by
  obtain ⟨a, h1, h2⟩ := h
  exact ⟨a, h1, k h2⟩
theorem WdR.to (k : KT K H H') {q : Mv} {x : Str × List Str} (h : WdR K H q x) : WdR K H' q x := by
  obtain ⟨h1, c, h2, h3⟩ := h
  exact ⟨h1, c, h2, k h3⟩
theorem Mx.to {d : Addr} {ks : List Mv} (m : Mx K H w d ks) (k : KT K H H') (o : Rd H' d (mxo d w ks)) : Mx K H' w d ks :=
  ⟨o, fun p hp => ⟨KyV.to (fun g => k g) _ _ (m.key p hp).1, (m.key p hp).2⟩, m.one, m.len, m.sys⟩
end
/-- the six objects of a book -/
structure BookV (K : PySem.W.Frag) (w : World) (H : Hp) (s pr po re wd ct : Addr) (b : Bk) : Prop where
  s : ∃ xs, SqT K H s xs ∧ Paired (SortV K H) xs (b.sorts ++ [whyS b.reasons])
  pr : ∃ xs, SqT K H pr xs ∧ Paired (PrimV K H) xs b.prims
  po : SqT K H po ((b.ports ++ (["gone"] : List Str)).map V.str)
  re : SqT K H re (b.reasons.map V.str)
  wd : ∃ mv, H wd = some (mxo wd w mv) ∧ Mx K H w wd mv ∧ Paired (WdR K H) mv (b.sorts ++ [whyS b.reasons])
  ct : ∃ mv, H ct = some (mxo ct w mv) ∧ Mx K H w ct mv ∧ Paired CtR mv b.prims
def flds (s pr po re wd ct : Addr) : List (Str × V) := [("_sorts", .ref s), ("_primitives", .ref pr), ("_ports", .ref po), ("_reasons", .ref re), ("_words", .ref wd), ("_counts", .ref ct)]
def BookAt (K : PySem.W.Frag) (w : World) (H : Hp) (C p : Addr) (b : Bk) : Prop := ∃ dx s pr po re wd ct, H p = some (.ins C dx (flds s pr po re wd ct)) ∧ BookV K w H s pr po re wd ct b
/-- all but lists and sources stay -/
def UpL (H H' : Hp) : Prop := ∀ b o, H b = some o → (∀ xs, o ≠ .lst xs) → (∀ kv, o ≠ .dK kv) → H' b = some o
theorem UpL.of {H H' : Hp} (e : Ex H H') : UpL H H' := fun b o h _ _ => e b o h
theorem UpL.trans {H H1 H2 : Hp} (a : UpL H H1) (b : UpL H1 H2) : UpL H H2 := fun x o h n1 n2 => b x o (a x o h n1 n2) n1 n2
theorem UpL.t {K : PySem.W.Frag} {H H' : Hp} (u : UpL H H') : KT K H H' := fun {a xs} h => by
  rcases h with (h | ⟨ob, h⟩) | h
  · exact .inl (.inl (u _ _ h (fun _ z => by cases z) (fun _ z => by cases z)))
  · exact .inl (.inr ⟨ob, u _ _ h (fun _ z => by cases z) (fun _ z => by cases z)⟩)
  · exact .inr h
theorem BookV.to {K : PySem.W.Frag} {w : World} {H H' : Hp} {s pr po re wd ct : Addr} {b : Bk} (h : BookV K w H s pr po re wd ct b) (k : KT K H H') (m : ∀ d mv, H d = some (mxo d w mv) → H' d = some (mxo d w mv)) : BookV K w H' s pr po re wd ct b := by
  obtain ⟨⟨xs, s1, s2⟩, ⟨ys, p1, p2⟩, po, re, ⟨mv, w0, w1, w2⟩, ⟨mc, c0, c1, c2⟩⟩ := h
  exact ⟨⟨xs, k s1, pairedTo s2 fun _ _ g => g.to k⟩, ⟨ys, k p1, pairedTo p2 fun _ _ g => g.to k⟩, k po, k re, ⟨mv, m _ _ w0, Mx.to w1 k (.inl (m _ _ w0)), pairedTo w2 fun _ _ g => g.to k⟩, ⟨mc, m _ _ c0, Mx.to c1 k (.inl (m _ _ c0)), c2⟩⟩
theorem BookAt.up {K : PySem.W.Frag} {w : World} {H H' : Hp} {C p : Addr} {b : Bk} (h : BookAt K w H C p b) (u : UpL H H') : BookAt K w H' C p b := by
  obtain ⟨dx, s, pr, po, re, wd, ct, h1, h2⟩ := h
  exact ⟨dx, s, pr, po, re, wd, ct, u _ _ h1 (fun _ z => by cases z) (fun _ z => by cases z), h2.to (fun {a xs} g => u.t g) fun d mv g => u _ _ g (fun _ z => by cases z) (fun _ z => by cases z)⟩
theorem rows_sorts {K : PySem.W.Frag} {H : Hp} : ∀ {xs : List V} {ys : List (Str × List Str)}, Paired (SortV K H) xs ys → ∃ (ps : List Addr) (ks : List Mv), xs = ps.map V.ref ∧ Paired (fun p (r : Mv) => SqT K H p [r.2.1, r.2.2]) ps ks ∧ (∀ r ∈ ks, KyV K H r.1 r.2.1 ∧ r.1.depth ≤ 8) ∧ Paired (WdR K H) ks ys ∧ ks.map (·.1) = ys.map (fun x => NestedKey.text x.1)
  | _, _, .nil => ⟨[], [], rfl, .nil, (fun r h => by cases h), .nil, rfl⟩
  | _, _, .cons (b := y) h t => by
    obtain ⟨ps, ks, h1, h2, h3, h4, h5⟩ := rows_sorts t
    obtain ⟨a, c, rfl, g1, g2⟩ := h
    refine ⟨a :: ps, (.text y.1, .str y.1, .ref c) :: ks, by rw [h1]; rfl, .cons g1 h2, fun r hr => ?_, .cons ⟨rfl, c, rfl, g2⟩ h4, by rw [List.map_cons, List.map_cons, h5]⟩
    rcases List.mem_cons.mp hr with rfl | hr
    · exact ⟨KyV.text _, by simp [NestedKey.depth]⟩
    · exact h3 r hr
theorem rows_prims {K : PySem.W.Frag} {H : Hp} : ∀ {xs : List V} {ys : List (Str × Nat)}, Paired (PrimV K H) xs ys → ∃ (ps : List Addr) (ks : List Mv), xs = ps.map V.ref ∧ Paired (fun p (r : Mv) => SqT K H p [r.2.1, r.2.2]) ps ks ∧ (∀ r ∈ ks, KyV K H r.1 r.2.1 ∧ r.1.depth ≤ 8) ∧ Paired CtR ks ys ∧ ks.map (·.1) = ys.map (fun x => NestedKey.text x.1)
  | _, _, .nil => ⟨[], [], rfl, .nil, (fun r h => by cases h), .nil, rfl⟩
  | _, _, .cons (b := y) h t => by
    obtain ⟨ps, ks, h1, h2, h3, h4, h5⟩ := rows_prims t
    obtain ⟨a, rfl, g1⟩ := h
    refine ⟨a :: ps, (.text y.1, .str y.1, .int (y.2 : Int)) :: ks, by rw [h1]; rfl, .cons g1 h2, fun r hr => ?_, .cons ⟨rfl, rfl⟩ h4, by rw [List.map_cons, List.map_cons, h5]⟩
    rcases List.mem_cons.mp hr with rfl | hr
    · exact ⟨KyV.text _, by simp [NestedKey.depth]⟩
    · exact h3 r hr
theorem text_nodup {α : Type} {ys : List (Str × α)} (h : (ys.map (·.1)).Nodup) : (ys.map (fun x => NestedKey.text x.1)).Nodup := by
  have e : ys.map (fun x => NestedKey.text x.1) = (ys.map (·.1)).map NestedKey.text := by rw [List.map_map]; rfl
  rw [e]
  exact List.pairwise_map.mpr (List.Pairwise.imp (fun {a b} ne e => ne (by injection e)) h)
/-- all but p stay -/
def Exb (p : Addr) (H H' : Hp) : Prop := ∀ b o, H b = some o → b ≠ p → H' b = some o
section
variable {p : Addr} {H H' H'' : Hp} {K : PySem.W.Frag} {w : World} {C dx : Addr} {fs : List (Str × V)}
theorem Exb.of (e : Ex H H') : Exb p H H' := fun b o h _ => e b o h
theorem Exb.trans (a : Exb p H H') (b : Exb p H' H'') : Exb p H H'' := fun x o h n => b x o (a x o h n) n
theorem Exb.put {o : HO} : Exb p H (upd H p o) := fun b u h n => by rw [upd_ne n]; exact h
theorem Exb.l (e : Exb p H H') (hp : H p = some (.ins C dx fs)) {a : Addr} {xs : List V} (h : SqL K H a xs) : SqL K H' a xs := by
  rcases h with (h | ⟨ob, h⟩) | h
  · exact .inl (.inl (e _ _ h (ne_of h hp (by intro z; cases z))))
  · exact .inl (.inr ⟨ob, e _ _ h (ne_of h hp (by intro z; cases z))⟩)
  · exact .inr h
theorem Exb.t (e : Exb p H H') (hp : H p = some (.ins C dx fs)) : KT K H H' := fun {a xs} h => by
  rcases h with (h | ⟨ob, h⟩) | h
  · exact .inl (.inl (e _ _ h (ne_of h hp (by intro z; cases z))))
  · exact .inl (.inr ⟨ob, e _ _ h (ne_of h hp (by intro z; cases z))⟩)
  · exact .inr h
theorem Exb.b (e : Exb p H H') (hp : H p = some (.ins C dx fs)) {bb : Bool} {a : Addr} {xs : List V} (h : SqB K bb H a xs) : SqB K bb H' a xs := by
  cases bb
  · exact e.t hp h
  · exact e.l hp h
theorem Exb.f (e : Exb p H H') (hp : H p = some (.ins C dx fs)) {a : Addr} {xs : List V} (h : TupF H a xs) : TupF H' a xs := by
  obtain ⟨its, h1, h2⟩ := h
  exact ⟨its, e _ _ h1 (ne_of h1 hp (by intro z; cases z)), h2⟩
theorem Exb.m (e : Exb p H H') (hp : H p = some (.ins C dx fs)) {d : Addr} {mv : List Mv} (h : H d = some (mxo d w mv)) : H' d = some (mxo d w mv) := e _ _ h (ne_of h hp (by intro z; cases z))
end
def TopF (K : PySem.W.Frag) (w : World) (H : Hp) (v : V) (d : PyData) : Prop := tupD d = true → ∃ a xs, v = .ref a ∧ TupF H a xs ∧ DwAll K w H xs (itemsD d)
def spBInit (K : PySem.W.Frag) (w : World) (C CB : Addr) : Sp := fun vs H Q E => ∃ (p dx : Addr) (v0 v1 v2 v3 : V) (d0 d1 d2 d3 : PyData), vs = [.ref p, v0, v1, v2, v3] ∧ H p = some (.ins C dx []) ∧
  Dw K w H v0 d0 ∧ Dw K w H v1 d1 ∧ Dw K w H v2 d2 ∧ Dw K w H v3 d3 ∧ (smD d0 = true ∧ cnt d0 ≤ 900) ∧ (smD d1 = true ∧ cnt d1 ≤ 900) ∧ (smD d2 = true ∧ cnt d2 ≤ 900) ∧ (smD d3 = true ∧ cnt d3 ≤ 900) ∧ TopF K w H v1 d1 ∧
  (∀ b, bookR d0 d1 d2 d3 = none → Right d0 d1 d2 d3 b → ∀ H', BookAt K w H' C p b → Exb p H H' → Q .non H') ∧
  (∀ path, bookR d0 d1 d2 d3 = some path → ∀ (H' : Hp) (dd q : Addr), Ex H H' → H' dd = some (.xd [("path", .ref q)]) → SqT K H' q (path.map V.int) → E (.ref CB) (some dd) H')
section
variable {K : PySem.W.Frag} {w : World} {H : Hp}
theorem paired_of {α : Type} {F : V → α → Prop} {g : α → PyData} (hF : ∀ v x, Dw K w H v (g x) → F v x) : ∀ {xs : List V} {ys : List α}, DwAll K w H xs (ys.map g) → Paired F xs ys
  | _, [], h => by cases h; exact .nil
  | _, y :: ys, h => by
    cases h with
    | cons h1 h2 => exact .cons (hF _ _ h1) (paired_of hF h2)
theorem dw_strs : ∀ {xs : List V} {ys : List Str}, DwAll K w H xs (ys.map PyData.str) → xs = ys.map V.str
  | _, [], h => by cases h; rfl
  | _, y :: ys, h => by
    cases h with
    | cons h1 h2 =>
      cases h1
      rw [dw_strs h2]
      rfl
theorem sort_of {v : V} {x : Str × List Str} (h : Dw K w H v (sortD x)) : SortV K H v x := by
  cases h with
  | tup h1 h2 =>
    cases h2 with
    | cons a1 h3 =>
      cases h3 with
      | cons a2 h4 =>
        cases h4
        cases a1
        cases a2 with
        | tup g1 g2 =>
          rw [dw_strs g2] at g1
          exact ⟨_, _, rfl, h1, g1⟩
theorem prim_of {v : V} {x : Str × Nat} (h : Dw K w H v (primD x)) : PrimV K H v x := by
  cases h with
  | tup h1 h2 =>
    cases h2 with
    | cons a1 h3 =>
      cases h3 with
      | cons a2 h4 =>
        cases h4
        cases a1
        cases a2
        exact ⟨_, rfl, h1⟩
theorem tupF_go {v : V} {a : Addr} {bb : Bool} {xs : List V} {Q : VK} (ev : v = .ref a) (hs : SqB K bb H a xs) (k : ∀ t H', Ex H H' → (bb = true → TupF H' t xs) → (bb = false → t = a) → SqT K H' t xs → Q (.ref t) H') : rTupF K [v] H Q := by
  subst ev
  cases bb
  · exact ⟨a, xs, rfl, .inr ⟨hs, k a H (Ex.refl H) (fun z => by cases z) (fun _ => rfl) hs⟩⟩
  · refine ⟨a, xs, rfl, .inl ⟨hs, fun l its hv nl => ?_⟩⟩
    have t : TupF (upd H l (.frz (tupO its) (.tup xs))) l xs := ⟨its, upd_same, hv⟩
    exact k l _ (Ex.new nl) (fun _ => t) (fun z => by cases z) t.sq
theorem catF_go {a b : Addr} {xs ys : List V} {Q : VK} (ha : SqT K H a xs) (hb : SqT K H b ys) (hz : xs.length + ys.length ≤ 16777216) (k : ∀ r H', Ex H H' → SqT K H' r (xs ++ ys) → Q (.ref r) H') : rCatF K (.ref a) (.ref b) H Q := by
  refine ⟨a, b, xs, ys, rfl, rfl, ha, hb, by rw [sizeLine_eq]; exact hz, fun e => ?_, fun _ e => ?_, fun _ _ r its hv nr => ?_⟩
  · subst e
    exact k b H (Ex.refl H) hb
  · subst e
    exact k a H (Ex.refl H) (by rw [List.append_nil]; exact ha)
  · exact k r _ (Ex.new nr) (.inl (.inr ⟨_, upd_same⟩))
theorem catF_goF {a b : Addr} {xs ys : List V} {Q : VK} (ha : SqT K H a xs) (hb : TupF H b ys) (hy : ys ≠ []) (hz : xs.length + ys.length ≤ 16777216) (k : ∀ r H', Ex H H' → TupF H' r (xs ++ ys) → Q (.ref r) H') : rCatF K (.ref a) (.ref b) H Q := by
  refine ⟨a, b, xs, ys, rfl, rfl, ha, hb.sq, by rw [sizeLine_eq]; exact hz, fun e => ?_, fun _ e => absurd e hy, fun _ _ r its hv nr => ?_⟩
  · subst e
    exact k b H (Ex.refl H) hb
  · exact k r _ (Ex.new nr) ⟨its, upd_same, hv⟩
end
section
variable {P : Program} {w : World} {K : PySem.W.Frag} {mg : Str → Option Value} {base : Heap} {f C CW CB CA fW fB : Addr} {fd fdB : FuncData}
abbrev n_Book___init__ : List Str := ["self", "sorts", "primitives", "ports", "reasons", "wrong"]
theorem sc_Book___init__ : FnScope n_Book___init__ ["self", "sorts", "primitives", "ports", "reasons"] (defScope s_Book___init__) := ⟨rfl, rfl, rfl, by decide +kernel, rfl, by decide +kernel, by decide +kernel⟩
theorem ok_binit (F : Fun K "__init__" "Book.__init__" s_Book___init__ f fd) (M : BkTxt K C) (T : WTxt K mg CW fW) (BB : BBTxt K mg CB fB) (m_tuple : mg "tuple" = none) (m_dict : mg "dict" = none)
    (G_BB : L2H.FnH P w K mg base CX0 1 fB fdB ["self", "path"] (spBBInit K CB)) (b_BB : Binds K fdB ["self", "path"] [])
    (h1 : HasN P w K mg base 5 "check_sorts" ["sorts"] (spChk K w CW sortsR)) (h2 : HasN P w K mg base 5 "check_primitives" ["primitives"] (spChk K w CW primsR)) (h3 : HasN P w K mg base 5 "check_plain_names" ["names", "path"] (spPlain K w CW)) :
    FnOk P w K mg base (L2.CX P w) 6 f fd ["self", "sorts", "primitives", "ports", "reasons"] (spBInit K w C CB) := by
  obtain ⟨f1, fd1, G_check_sorts, m_check_sorts, k_check_sorts, b_check_sorts⟩ := h1
  obtain ⟨f2, fd2, G_check_primitives, m_check_primitives, k_check_primitives, b_check_primitives⟩ := h2
  obtain ⟨f3, fd3, G_check_plain_names, m_check_plain_names, k_check_plain_names, b_check_plain_names⟩ := h3
  refine F.okX sc_Book___init__ (fun vs H Q E h => ?_) (fun cdv A outer s H vs Q E hr h => ?_)
  · obtain ⟨p, dx, v0, v1, v2, v3, d0, d1, d2, d3, rfl, _⟩ := h
    rfl
  obtain ⟨p, dx, v0, v1, v2, v3, d0, d1, d2, d3, rfl, hp, D0, D1, D2, D3, ⟨s0, c0⟩, ⟨s1, c1⟩, ⟨s2, c2⟩, ⟨s3, c3⟩, tf, good, bad⟩ := h
  refine ⟨_, (pss_cons (ps_try_asX (i := 5) (c := .ref CW) (tb := (fun W => tSeq (tDrop (tCallSD (spChk K w CW sortsR) [] (WE W) (tCons (tVar 1) tNil))) (tSeq (tDrop (tCallSD (spChk K w CW primsR) [] (WE W) (tCons (tVar 2) tNil))) (tSeq (tDrop (tCallSD (spPlain K w CW) [] (WE W) (tCons (tVar 3) (tCons (tTup (tCons (tC (.int 2)) tNil)) tNil)))) (tDrop (tCallSD (spPlain K w CW) [] (WE W) (tCons (tVar 4) (tCons (tTup (tCons (tC (.int 3)) tNil)) tNil)))))))) (ts := (fun a cls d => fun _ σ H' => tMkO CB (spBBInit K CB) [] (tCons (tXf a cls d CW "path" (tVar 5)) tNil) σ H' fun cls' d' H'' => wSuite 5 (fun cls d _ H => E cls d H) cls' d' σ H'')) (Wout := fun cls d _ H => E cls d H) rfl rfl sc_Book___init__.nd rfl rfl ⟨rfl, by decide, .inl T.gW⟩ (L2H.passesAt_of rfl) (L2.takes_of rfl rfl rfl rfl) (fun W pn xe tk _ => (pss_cons (ps_expr (by exact (pe_callSD G_check_sorts (hr.mono (by omega)) (by rfl) m_check_sorts k_check_sorts b_check_sorts .nil (fun σ => L2N.passAt tk σ) (pa_cons (pv 1) pa_nil)))) (pss_cons (ps_expr (by exact (pe_callSD G_check_primitives (hr.mono (by omega)) (by rfl) m_check_primitives k_check_primitives b_check_primitives .nil (fun σ => L2N.passAt tk σ) (pa_cons (pv 2) pa_nil)))) (pss_cons (ps_expr (by exact (pe_callSD G_check_plain_names (hr.mono (by omega)) (by rfl) m_check_plain_names k_check_plain_names b_check_plain_names .nil (fun σ => L2N.passAt tk σ) (pa_cons (pv 3) (pa_cons (pe_tup (pa_cons pe_int pa_nil)) pa_nil))))) (pss_one (ps_expr (by exact (pe_callSD G_check_plain_names (hr.mono (by omega)) (by rfl) m_check_plain_names k_check_plain_names b_check_plain_names .nil (fun σ => L2N.passAt tk σ) (pa_cons (pv 4) (pa_cons (pe_tup (pa_cons pe_int pa_nil)) pa_nil)))))))))) (fun a oe cls d pn xe hz hf tk hot => pss_one (L2H.ps_raiseHN hot tk (L2H.pmk5_oexH BB.o BB.iC BB.tI G_BB (L2H.roomH_mark (hr.mono (by omega)) _) hot b_BB pass0 (by rfl) BB.gB (pa_cons (by exact (pe_xfA T.fx T.no hz.zc hf (pv 5))) pa_nil)))))
  (pss_cons (ps_fld (pv 0) (pe_op (op_catF (K := K)) (pe_callTy (call_tupF (K := K)) (by rfl) m_tuple (by decide +kernel) (pa_cons (pv 1) pa_nil)) (pe_tupF (pa_cons (pe_tupF (pa_cons pe_str (pa_cons (pe_op (op_catF (K := K)) (pe_tupF (pa_cons pe_str (pa_cons pe_str pa_nil))) (pe_callTy (call_tupF (K := K)) (by rfl) m_tuple (by decide +kernel) (pa_cons (pv 4) pa_nil))) pa_nil))) pa_nil))) rfl)
  (pss_cons (ps_fld (pv 0) (pe_callTy (call_tupF (K := K)) (by rfl) m_tuple (by decide +kernel) (pa_cons (pv 2) pa_nil)) rfl)
  (pss_cons (ps_fld (pv 0) (pe_op (op_catF (K := K)) (pe_callTy (call_tupF (K := K)) (by rfl) m_tuple (by decide +kernel) (pa_cons (pv 3) pa_nil)) (pe_tupF (pa_cons pe_str pa_nil))) rfl)
  (pss_cons (ps_fld (pv 0) (pe_callTy (call_tupF (K := K)) (by rfl) m_tuple (by decide +kernel) (pa_cons (pv 4) pa_nil)) rfl)
  (pss_cons (ps_fld (pv 0) (pe_callTy (call_dictMT (K := K) (w := w) (units60 hr) rfl) (by rfl) m_dict (by decide +kernel) (pa_cons (pe_fld (pv 0) rfl) pa_nil)) rfl)
  (pss_one (ps_fld (pv 0) (pe_callTy (call_dictMT (K := K) (w := w) (units60 hr) rfl) (by rfl) m_dict (by decide +kernel) (pa_cons (pe_fld (pv 0) rfl) pa_nil)) rfl)))))))), ?_⟩
  have catch_ : ∀ path, bookR d0 d1 d2 d3 = some path → ∀ (H' : Hp) (dd q : Addr), Ex H H' → H' dd = some (.xd [("path", .ref q)]) → SqT K H' q (path.map V.int) → ∀ a, H' a = none →
      tMkO CB (spBBInit K CB) [] (tCons (tXf a (.ref CW) (some dd) CW "path" (tVar 5)) tNil) [some (.ref p), some v0, some v1, some v2, some v3, some (.ref a)] H' (fun cls' d' H'' => E cls' d' H'') := fun path e H' dd q e' hx hq a na => by
    refine ⟨_, rfl, rfl, rfl, dd, _, .ref q, rfl, hx, rfl, (by show (1 : Nat) ≤ 1000; decide), fun x nx => ⟨x, q, _, rfl, upd_same, Evl.ex_t (Ex.new nx) hq, fun dx2 n2 d2 => ⟨rfl, dx2, [("path", .ref q)], upd_same, by rw [upd_ne d2]; exact upd_same, by rw [upd_ne d2] at n2; exact n2, ?_⟩⟩⟩
    have n2' : H' dx2 = none := by rw [upd_ne d2] at n2; exact n2
    have eo : ∀ b o, H' b = some o → (upd (del (upd (upd (upd H' x (exo x CB none)) dx2 (exd dx2 [("path", V.ref q)])) x (exo x CB (some dx2))) x) dx2 (HO.xd [("path", V.ref q)])) b = some o := fun b o hb => by
      rw [upd_ne (ne_of_none hb n2'), del_ne (ne_of_none hb nx), upd_ne (ne_of_none hb nx), upd_ne (ne_of_none hb n2'), upd_ne (ne_of_none hb nx)]
      exact hb
    exact bad path e _ dx2 q (e'.trans eo) upd_same (Evl.ex_t eo hq)
  have r0 : ∀ {path}, sortsR d0 = some path → bookR d0 d1 d2 d3 = some path := fun {path} e => by unfold bookR; rw [e]
  have sz : sizeLine = 16777216 := sizeLine_eq
  refine ⟨_, rfl, v0, d0, rfl, D0, s0, c0, fun e0 H1 x1 => ?_, fun path e H' dd q x hx hq => ⟨true, T.te, fun _ a na => catch_ path (r0 e) H' dd q x hx hq a na, fun z => nomatch z⟩⟩
  have r1 : ∀ {path}, primsR d1 = some path → bookR d0 d1 d2 d3 = some path := fun {path} e => by unfold bookR; rw [e0, e]
  refine ⟨_, rfl, v1, d1, rfl, Dw.mono x1 _ _ D1, s1, c1, fun e1 H2 x2 => ?_, fun path e H' dd q x hx hq => ⟨true, T.te, fun _ a na => catch_ path (r1 e) H' dd q (x1.trans x) hx hq a na, fun z => nomatch z⟩⟩
  have r2 : ∀ {path}, plainR 2 d2 = some path → bookR d0 d1 d2 d3 = some path := fun {path} e => by unfold bookR; rw [e0, e1, e]
  have x12 := x1.trans x2
  refine ⟨_, rfl, (by show (1 : Nat) ≤ sizeLine; omega), fun t2 nt2 => ⟨v2, d2, t2, 2, rfl, Dw.mono (x12.trans (Ex.new nt2)) _ _ D2, s2, c2, .inl (.inl upd_same), fun e2 H3 x3 => ?_, fun path e H' dd q x hx hq => ⟨true, T.te, fun _ a na => catch_ path (r2 e) H' dd q ((x12.trans (Ex.new nt2)).trans x) hx hq a na, fun z => nomatch z⟩⟩⟩
  have r3 : ∀ {path}, plainR 3 d3 = some path → bookR d0 d1 d2 d3 = some path := fun {path} e => by unfold bookR; rw [e0, e1, e2, e]
  have x13 := (x12.trans (Ex.new (o := HO.tup [V.int 2]) nt2)).trans x3
  refine ⟨_, rfl, (by show (1 : Nat) ≤ sizeLine; omega), fun t3 nt3 => ⟨v3, d3, t3, 3, rfl, Dw.mono (x13.trans (Ex.new nt3)) _ _ D3, s3, c3, .inl (.inl upd_same), fun e3 H4 x4 => ?_, fun path e H' dd q x hx hq => ⟨true, T.te, fun _ a na => catch_ path (r3 e) H' dd q ((x13.trans (Ex.new nt3)).trans x) hx hq a na, fun z => nomatch z⟩⟩⟩
  have x14 := (x13.trans (Ex.new (o := HO.tup [V.int 3]) nt3)).trans x4
  have hR : bookR d0 d1 d2 d3 = none := by unfold bookR; rw [e0, e1, e2]; exact e3
  obtain ⟨b, R⟩ := right_of hR
  have n0 := items_len d0
  have n1 := items_len d1
  have n2 := items_len d2
  have n3 := items_len d3
  obtain ⟨a0, b0, xs0, rfl, hs0, ha0⟩ := dw_seq D0 R.l0
  obtain ⟨a1, b1, xs1, ev1, hs1, ha1, tf1⟩ : ∃ (a : Addr) (bb : Bool) (xs : List V), v1 = .ref a ∧ SqB K bb H a xs ∧ DwAll K w H xs (itemsD d1) ∧ (bb = false → TupF H a xs) := by
    cases ht : tupD d1 with
    | true =>
      obtain ⟨a, xs, h1, h2, h3⟩ := tf ht
      exact ⟨a, false, xs, h1, h2.sq, h3, fun _ => h2⟩
    | false =>
      cases D1 with
      | lst _ g1 g2 => exact ⟨_, true, _, rfl, g1, g2, fun z => by cases z⟩
      | tup g1 g2 => cases ht
      | _ => exact absurd R.l1 (by intro z; cases z)
  subst ev1
  obtain ⟨a2, b2, xs2, rfl, hs2, ha2⟩ := dw_seq D2 R.l2
  obtain ⟨a3, b3, xs3, rfl, hs3, ha3⟩ := dw_seq D3 R.l3
  have l0 := dwAll_len ha0
  have l1 := dwAll_len ha1
  have l2 := dwAll_len ha2
  have l3 := dwAll_len ha3
  rw [R.i0] at ha0
  rw [R.i1] at ha1
  rw [R.i2] at ha2
  rw [R.i3] at ha3
  have S0 : Paired (SortV K H) xs0 b.sorts := paired_of (F := SortV K H) (g := sortD) (fun v x h => sort_of h) ha0
  have P1 : Paired (PrimV K H) xs1 b.prims := paired_of (F := PrimV K H) (g := primD) (fun v x h => prim_of h) ha1
  obtain rfl := dw_strs ha2
  obtain rfl := dw_strs ha3
  have q4 : H4 p = some (.ins C dx []) := x14 _ _ hp
  clear tf D0 D1 D2 D3 ha0 ha1 ha2 ha3 catch_ bad
  have E4 : Exb p H H4 := Exb.of x14
  refine ⟨_, rfl, ?_⟩
  dsimp only [tNil]
  refine tupF_go rfl (E4.b hp hs0) fun T0 H5 x5 _ _ hT0 => ⟨(by show (2 : Nat) ≤ sizeLine; omega), fun u0 i0 hv0 nu0 => ⟨_, rfl, ?_⟩⟩
  dsimp only [tNil]
  have x6 := Ex.new (o := HO.frz (tupO i0) (.tup [V.str "ended", V.str "closed"])) nu0
  have E6 : Exb p H (upd H5 u0 (HO.frz (tupO i0) (.tup [V.str "ended", V.str "closed"]))) := (E4.trans (Exb.of x5)).trans (Exb.of x6)
  have hu0 : SqT K (upd H5 u0 (HO.frz (tupO i0) (.tup [V.str "ended", V.str "closed"]))) u0 [V.str "ended", V.str "closed"] := .inl (.inr ⟨_, upd_same⟩)
  refine tupF_go rfl (E6.b hp hs3) fun T3 H7 x7 _ _ hT3 => ?_
  refine catF_go (Evl.ex_t x7 hu0) hT3 (by rw [l3]; show 2 + _ ≤ 16777216; omega) fun W8 H8 x8 hW8 => ⟨(by show (2 : Nat) ≤ sizeLine; omega), fun u1 i1 hv1 nu1 => ⟨(by show (1 : Nat) ≤ sizeLine; omega), fun u2 i2 hv2 nu2 => ?_⟩⟩
  have y1 := Ex.new (o := HO.frz (tupO i1) (.tup [V.str "why", V.ref W8])) nu1
  have y2 := Ex.new (o := HO.frz (tupO i2) (.tup [V.ref u1])) nu2
  have y78 := (x7.trans x8).trans (y1.trans y2)
  refine catF_goF (Evl.ex_t (x6.trans y78) hT0) ⟨i2, upd_same, hv2⟩ (by simp) (by rw [l0]; show _ + 1 ≤ 16777216; omega) fun S H9 x9 hS => ?_
  have y9 := y78.trans x9
  have q9 : H9 p = some (.ins C dx []) := y9 _ _ (x6 _ _ (x5 _ _ q4))
  have E9 : Exb p H H9 := E6.trans (Exb.of y9)
  have hW9 : SqT K H9 W8 ((["ended", "closed"] : List Str).map V.str ++ b.reasons.map V.str) := by
    exact Evl.ex_t ((y1.trans y2).trans x9) hW8
  have hu1 : SqT K H9 u1 [V.str "why", V.ref W8] := Evl.ex_t (y2.trans x9) (.inl (.inr ⟨_, upd_same⟩))
  have S9 : Paired (SortV K H9) (xs0 ++ [V.ref u1]) (b.sorts ++ [whyS b.reasons]) := pairedApp (pairedTo S0 fun _ _ g => g.to (E9.t hp)) ⟨u1, W8, rfl, hu1, hW9⟩
  refine ⟨_, rfl, p, C, dx, [], rfl, q9, M.cl, M.n0, (by show (0 : Nat) < 1000; decide), ?_⟩
  have q10 : (upd H9 p (.ins C dx (putF "_sorts" (.ref S) []))) p = some (.ins C dx [("_sorts", .ref S)]) := upd_same
  have z10 : Exb p H9 (upd H9 p (.ins C dx (putF "_sorts" (.ref S) []))) := Exb.put
  generalize upd H9 p (.ins C dx (putF "_sorts" (.ref S) [])) = H10 at q10 z10 ⊢
  have E10 := E9.trans z10
  refine ⟨_, rfl, ?_⟩
  dsimp only [tNil]
  refine tupF_go rfl (E10.b hp hs1) fun PR H11 x11 hF1 hF1' hPR => ⟨_, rfl, p, C, dx, _, rfl, x11 _ _ q10, M.cl, M.n1, (by show (1 : Nat) < 1000; decide), ?_⟩
  have hF11 : TupF H11 PR xs1 := by
    cases b1 with
    | true => exact hF1 rfl
    | false =>
      rw [hF1' rfl]
      exact ((E10.trans (Exb.of x11)).f hp (tf1 rfl))
  have q11 := x11 _ _ q10
  have z11 : Exb p H11 (upd H11 p (.ins C dx (putF "_primitives" (.ref PR) [("_sorts", .ref S)]))) := Exb.put
  have q12 : (upd H11 p (.ins C dx (putF "_primitives" (.ref PR) [("_sorts", .ref S)]))) p = some (.ins C dx [("_sorts", .ref S), ("_primitives", .ref PR)]) := upd_same
  generalize upd H11 p (.ins C dx (putF "_primitives" (.ref PR) [("_sorts", .ref S)])) = H12 at q12 z11 ⊢
  have E12 := (E10.trans (Exb.of x11)).trans z11
  refine ⟨_, rfl, ?_⟩
  dsimp only [tNil]
  refine tupF_go rfl (E12.b hp hs2) fun T2 H13 x13' _ _ hT2 => ⟨(by show (1 : Nat) ≤ sizeLine; omega), fun u3 i3 hv3 nu3 => ?_⟩
  have y3 := Ex.new (o := HO.frz (tupO i3) (.tup [V.str "gone"])) nu3
  refine catF_go (Evl.ex_t y3 hT2) (.inl (.inr ⟨_, upd_same⟩)) (by rw [l2]; show _ + 1 ≤ 16777216; omega) fun PO H14 x14' hPO => ⟨_, rfl, p, C, dx, _, rfl, x14' _ _ (y3 _ _ (x13' _ _ q12)), M.cl, M.n2, (by show (2 : Nat) < 1000; decide), ?_⟩
  have hPO' : SqT K H14 PO ((b.ports ++ (["gone"] : List Str)).map V.str) := by rw [List.map_append]; exact hPO
  have x1214 := (x13'.trans y3).trans x14'
  have q14 := x1214 _ _ q12
  have z14 : Exb p H14 (upd H14 p (.ins C dx (putF "_ports" (.ref PO) [("_sorts", .ref S), ("_primitives", .ref PR)]))) := Exb.put
  have q15 : (upd H14 p (.ins C dx (putF "_ports" (.ref PO) [("_sorts", .ref S), ("_primitives", .ref PR)]))) p = some (.ins C dx [("_sorts", .ref S), ("_primitives", .ref PR), ("_ports", .ref PO)]) := upd_same
  generalize upd H14 p (.ins C dx (putF "_ports" (.ref PO) [("_sorts", .ref S), ("_primitives", .ref PR)])) = H15 at q15 z14 ⊢
  have E15 := (E12.trans (Exb.of x1214)).trans z14
  refine ⟨_, rfl, ?_⟩
  dsimp only [tNil]
  refine tupF_go rfl (E15.b hp hs3) fun RE H16 x16 _ _ hRE => ⟨_, rfl, p, C, dx, _, rfl, x16 _ _ q15, M.cl, M.n3, (by show (3 : Nat) < 1000; decide), ?_⟩
  have q16 := x16 _ _ q15
  have z16 : Exb p H16 (upd H16 p (.ins C dx (putF "_reasons" (.ref RE) [("_sorts", .ref S), ("_primitives", .ref PR), ("_ports", .ref PO)]))) := Exb.put
  have q17 : (upd H16 p (.ins C dx (putF "_reasons" (.ref RE) [("_sorts", .ref S), ("_primitives", .ref PR), ("_ports", .ref PO)]))) p = some (.ins C dx [("_sorts", .ref S), ("_primitives", .ref PR), ("_ports", .ref PO), ("_reasons", .ref RE)]) := upd_same
  generalize upd H16 p (.ins C dx (putF "_reasons" (.ref RE) [("_sorts", .ref S), ("_primitives", .ref PR), ("_ports", .ref PO)])) = H17 at q17 z16 ⊢
  -- what stands at H17
  have E17 : Exb p H16 H17 := z16
  have E1117 : Exb p H11 H17 := ((z11.trans (Exb.of x1214)).trans z14).trans ((Exb.of x16).trans z16)
  have E1417 : Exb p H14 H17 := z14.trans ((Exb.of x16).trans z16)
  have E917 : Exb p H9 H17 := (z10.trans (Exb.of x11)).trans E1117
  have EH17 : Exb p H H17 := E9.trans E917
  have hS17 := E917.f q9 hS
  have S17 : Paired (SortV K H17) (xs0 ++ [V.ref u1]) (b.sorts ++ [whyS b.reasons]) := pairedTo S9 fun _ _ g => g.to (E917.t q9)
  have hF17 := E1117.f q11 hF11
  have P17 : Paired (PrimV K H17) xs1 b.prims := pairedTo P1 fun _ _ g => g.to (EH17.t hp)
  have po17 := E1417.t q14 hPO'
  have re17 := E17.t q16 hRE
  obtain ⟨ps0, ks0, g1, g2, g3, g4, g5⟩ := rows_sorts S17
  obtain ⟨ps1, ks1, k1, k2, k3, k4, k5⟩ := rows_prims P17
  have nd0 : (ks0.map (·.1)).Nodup := by
    rw [g5]
    refine text_nodup ?_
    rw [List.map_append, List.nodup_append]
    refine ⟨R.n0, by simp, fun a ha c hc e => ?_⟩
    obtain ⟨x, hx, rfl⟩ := List.mem_map.mp ha
    have : c = "why" := by simpa [whyS] using hc
    exact R.y0 x hx (by rw [e, this]; simp [kept])
  have nd1 : (ks1.map (·.1)).Nodup := by
    rw [k5]
    exact text_nodup R.n1
  have len0 : ks0.length ≤ 1000 := by
    have := Paired.length g4
    rw [this, List.length_append, ← Paired.length S0, l0]
    show _ + 1 ≤ 1000
    omega
  have len1 : ks1.length ≤ 1000 := by
    have := Paired.length k4
    rw [this, ← Paired.length P1, l1]
    omega
  obtain ⟨its0, w1, w2⟩ := hS17
  obtain ⟨its1, w3, w4⟩ := hF17
  refine ⟨_, rfl, p, C, dx, _, _, rfl, q17, M.cl, M.n0, rfl, S, its0, ps0, ks0, rfl, by rw [← g1]; exact w1, by rw [← g1]; exact w2, g2, g3, len0, fun W nW sW => ⟨_, rfl, p, C, dx, _, rfl, (Ex.new nW) _ _ q17, M.cl, M.n4, (by show (4 : Nat) < 1000; decide), ?_⟩⟩
  rw [merge_nodup (acc := []) (by simpa using nd0), List.nil_append]
  have xW := Ex.new (o := mxo W w ks0) nW
  have mW : Mx K (upd H17 W (mxo W w ks0)) w W ks0 := ⟨.inl upd_same, fun r hr => ⟨KyV.mono xW _ _ (g3 r hr).1, (g3 r hr).2⟩, nd0, len0, sW⟩
  have oW : (upd H17 W (mxo W w ks0)) W = some (mxo W w ks0) := upd_same
  have q18 := xW _ _ q17
  generalize upd H17 W (mxo W w ks0) = H18 at xW mW oW q18 ⊢
  have z18 : Exb p H18 (upd H18 p (.ins C dx (putF "_words" (.ref W) [("_sorts", .ref S), ("_primitives", .ref PR), ("_ports", .ref PO), ("_reasons", .ref RE)]))) := Exb.put
  have q19 : (upd H18 p (.ins C dx (putF "_words" (.ref W) [("_sorts", .ref S), ("_primitives", .ref PR), ("_ports", .ref PO), ("_reasons", .ref RE)]))) p = some (.ins C dx [("_sorts", .ref S), ("_primitives", .ref PR), ("_ports", .ref PO), ("_reasons", .ref RE), ("_words", .ref W)]) := upd_same
  generalize upd H18 p (.ins C dx (putF "_words" (.ref W) [("_sorts", .ref S), ("_primitives", .ref PR), ("_ports", .ref PO), ("_reasons", .ref RE)])) = H19 at q19 z18 ⊢
  have E1719 : Exb p H17 H19 := (Exb.of xW).trans z18
  have kt19 : KT K H17 H19 := E1719.t q17
  refine ⟨_, rfl, p, C, dx, _, _, rfl, q19, M.cl, M.n1, rfl, PR, its1, ps1, ks1, rfl, by rw [← k1]; exact E1719 _ _ w3 (ne_of w3 q17 (by intro z; cases z)), by rw [← k1]; exact w4, pairedTo k2 fun _ _ g => kt19 g, fun r hr => ⟨KyV.to (fun g => kt19 g) _ _ (k3 r hr).1, (k3 r hr).2⟩, len1, fun N nN sN => ⟨_, rfl, p, C, dx, _, rfl, (Ex.new nN) _ _ q19, M.cl, M.n5, (by show (5 : Nat) < 1000; decide), ?_⟩⟩
  rw [merge_nodup (acc := []) (by simpa using nd1), List.nil_append]
  have xN := Ex.new (o := mxo N w ks1) nN
  have oN : (upd H19 N (mxo N w ks1)) N = some (mxo N w ks1) := upd_same
  have mN : Mx K (upd H19 N (mxo N w ks1)) w N ks1 := ⟨.inl upd_same, fun r hr => ⟨KyV.mono xN _ _ (KyV.to (fun g => kt19 g) _ _ (k3 r hr).1), (k3 r hr).2⟩, nd1, len1, sN⟩
  have q20 := xN _ _ q19
  generalize upd H19 N (mxo N w ks1) = H20 at xN mN oN q20 ⊢
  have z20 : Exb p H20 (upd H20 p (.ins C dx (putF "_counts" (.ref N) [("_sorts", .ref S), ("_primitives", .ref PR), ("_ports", .ref PO), ("_reasons", .ref RE), ("_words", .ref W)]))) := Exb.put
  have q21 : (upd H20 p (.ins C dx (putF "_counts" (.ref N) [("_sorts", .ref S), ("_primitives", .ref PR), ("_ports", .ref PO), ("_reasons", .ref RE), ("_words", .ref W)]))) p = some (.ins C dx (flds S PR PO RE W N)) := upd_same
  generalize upd H20 p (.ins C dx (putF "_counts" (.ref N) [("_sorts", .ref S), ("_primitives", .ref PR), ("_ports", .ref PO), ("_reasons", .ref RE), ("_words", .ref W)])) = H21 at q21 z20 ⊢
  have E1721 : Exb p H17 H21 := E1719.trans ((Exb.of xN).trans z20)
  have kt : KT K H17 H21 := E1721.t q17
  have E1821 : Exb p H18 H21 := z18.trans ((Exb.of xN).trans z20)
  refine good b hR R H21 ⟨dx, S, PR, PO, RE, W, N, q21, ⟨⟨_, kt (.inl (.inr ⟨_, w1⟩)), pairedTo S17 fun _ _ g => g.to kt⟩, ⟨_, kt (.inl (.inr ⟨_, w3⟩)), pairedTo P17 fun _ _ g => g.to kt⟩, kt po17, kt re17, ?_, ?_⟩⟩ (EH17.trans E1721)
  · have o21 := E1821.m q18 oW
    exact ⟨ks0, o21, Mx.to mW (E1821.t q18) (.inl o21), pairedTo g4 fun _ _ g => g.to kt⟩
  · have o21 := z20.m q20 oN
    exact ⟨ks1, o21, Mx.to mN (z20.t q20) (.inl o21), k4⟩
end
end L2.Vf.K01
/-! What a book tells. -/
namespace L2.Vf.K01
open PySem PySem.Spec PyProof.Rows
open Evl (Ex Ev EvT EvL EvA)
abbrev s_UnknownName : Stmt := top 4
abbrev s_UnknownName___init__ : Stmt := inClass s_UnknownName 0
abbrev s_Book___eq__ : Stmt := inClass s_Book 1
abbrev s_Book__parts : Stmt := inClass s_Book 2
abbrev s_Book_sorts : Stmt := inClass s_Book 3
abbrev s_Book_primitives : Stmt := inClass s_Book 4
abbrev s_Book_ports : Stmt := inClass s_Book 5
abbrev s_Book_reasons : Stmt := inClass s_Book 6
abbrev s_Book_words : Stmt := inClass s_Book 7
abbrev s_Book_count : Stmt := inClass s_Book 8
theorem units64 {k : Nat} {A : Around} (r : Room k A) : A.units + 64 < cLine := by have := r.un; omega
/-- what the text says of the class of unknown names -/
structure UTxt (K : PySem.W.Frag) (mg : Str → Option Value) (CU fI : Addr) : Prop where
  x : Xcl K CU leL "LookupError.__new__"
  no : PySem.W.findIn K (.ref CU) "name" = some none
  iC : PySem.W.findIn K (.ref CU) "__init__" = some (some (.ref fI))
  tI : PySem.W.typeIn K (.ref fI) = some (.type "function")
  ex : PySem.W.subIn K (.ref CU) (.type "BaseException") = some true
  ty : PySem.W.typeIn K (.ref CU) = some (.type "type")
  gU : mg "UnknownName" = some (.ref CU)
  fx : XfC K CU
  te : PySem.W.exmOne K (.ref CU) (.ref CU) = some true
def spUInit (K : PySem.W.Frag) (CU : Addr) : Sp := fun vs H Q _ => ∃ (a : Addr) (v : V), vs = [.ref a, v] ∧ H a = some (exo a CU none) ∧
  ∀ dx, H dx = none → dx ≠ a → Q .non (upd (upd H dx (exd dx [("name", v)])) a (exo a CU (some dx)))
def keyD (mv : List Mv) : PyData → Bool
  | .str x => (vM mv (.text x)).isSome
  | _ => false
def spIsKey (K : PySem.W.Frag) (w : World) : Sp := fun vs H Q _ => ∃ (T : Addr) (mv : List Mv) (v : V) (d : PyData), vs = [.ref T, v] ∧ Mx K H w T mv ∧ Dw K w H v d ∧ ∀ H', Ex H H' → Q (.bl (keyD mv d)) H'
def spLst (K : PySem.W.Frag) (w : World) (C : Addr) (R : Hp → List V → Bk → Prop) : Sp := fun vs H Q _ => ∃ (p : Addr) (b : Bk), vs = [.ref p] ∧ BookAt K w H C p b ∧ ∀ l xs H', Ex H H' → H l = none → H' l = some (.lst xs) → R H' xs b → Q (.ref l) H'
def RSorts (K : PySem.W.Frag) (H : Hp) (xs : List V) (b : Bk) : Prop := Paired (SortV K H) xs (b.sorts ++ [whyS b.reasons])
def RPrims (K : PySem.W.Frag) (H : Hp) (xs : List V) (b : Bk) : Prop := Paired (PrimV K H) xs b.prims
def RPorts (H : Hp) (xs : List V) (b : Bk) : Prop := xs = (b.ports ++ (["gone"] : List Str)).map V.str
def RReas (H : Hp) (xs : List V) (b : Bk) : Prop := xs = b.reasons.map V.str
def wLook (b : Bk) (d : PyData) : Option (List Str) := match d with
  | .str x => ((b.sorts ++ [whyS b.reasons]).find? fun p => decide (p.1 = x)).map (·.2)
  | _ => none
def cLook (b : Bk) (d : PyData) : Option Nat := match d with
  | .str x => (b.prims.find? fun p => decide (p.1 = x)).map (·.2)
  | _ => none
/-- a name is missing -/
def Misses (CU : Addr) (E : XK) (H : Hp) (v : V) : Prop := ∀ (H' : Hp) (dd : Addr), Ex H H' → H' dd = some (.xd [("name", v)]) → E (.ref CU) (some dd) H'
def spWords (K : PySem.W.Frag) (w : World) (C CU : Addr) : Sp := fun vs H Q E => ∃ (p : Addr) (b : Bk) (v : V) (d : PyData), vs = [.ref p, v] ∧ BookAt K w H C p b ∧ Dw K w H v d ∧
  (∀ ws, wLook b d = some ws → ∀ l H', Ex H H' → H l = none → H' l = some (.lst (ws.map V.str)) → Q (.ref l) H') ∧ (wLook b d = none → Misses CU E H v)
def spCount (K : PySem.W.Frag) (w : World) (C CU : Addr) : Sp := fun vs H Q E => ∃ (p : Addr) (b : Bk) (v : V) (d : PyData), vs = [.ref p, v] ∧ BookAt K w H C p b ∧ Dw K w H v d ∧
  (∀ n, cLook b d = some n → ∀ H', Ex H H' → Q (.int (n : Int)) H') ∧ (cLook b d = none → Misses CU E H v)
def bkD (b : Bk) : PyData := .tuple [.tuple ((b.sorts ++ [whyS b.reasons]).map sortD), .tuple (b.prims.map primD), .tuple ((b.ports ++ (["gone"] : List Str)).map .str), .tuple (b.reasons.map .str)]
def spParts (K : PySem.W.Frag) (w : World) (C : Addr) : Sp := fun vs H Q _ => ∃ (p : Addr) (b : Bk), vs = [.ref p] ∧ BookAt K w H C p b ∧ ∀ t H', Ex H H' → Dp K H' (.ref t) (bkD b) → Q (.ref t) H'
def spEq (K : PySem.W.Frag) (w : World) (C : Addr) : Sp := fun vs H Q _ => ∃ (p : Addr) (b : Bk) (y : V), vs = [.ref p, y] ∧ BookAt K w H C p b ∧
  ((∃ p' b', y = .ref p' ∧ BookAt K w H C p' b' ∧ SeqAt.shaped (bkD b) = true ∧ SeqAt.shaped (bkD b') = true ∧ ∀ H', Ex H H' → Q (.bl (PyData.eqv (bkD b) (bkD b'))) H') ∨
   (∃ d, Dw K w H y d ∧ PySem.W.kitOne K (.type (tyD d)) (.ref C) = some false ∧ Q (.bl false) H))
section
variable {K : PySem.W.Frag} {H H' : Hp}
mutual
theorem dp_ex (e : Ex H H') : ∀ {d : PyData} {v : V}, Dp K H v d → Dp K H' v d
  | .none, _, h => by cases h; exact .non
  | .bool b, _, h => by cases h; exact .bl b
  | .int i, _, h => by cases h; exact .int i
  | .str x, _, h => by cases h; exact .str x
  | .list ds, _, h => by
    cases h with
    | lst h1 h2 => exact .lst (Evl.ex_l e h1) (dp_exA e h2)
  | .tuple ds, _, h => by
    cases h with
    | tup h1 h2 => exact .tup (Evl.ex_t e h1) (dp_exA e h2)
  | .dict _, _, h => by cases h
theorem dp_exA (e : Ex H H') : ∀ {ds : List PyData} {vs : List V}, DpAll K H vs ds → DpAll K H' vs ds
  | [], _, h => by cases h; exact .nil
  | d :: ds, _, h => by
    cases h with
    | cons h1 h2 => exact .cons (dp_ex e h1) (dp_exA e h2)
end
theorem dp_strs : ∀ {ys : List Str}, DpAll K H (ys.map V.str) (ys.map PyData.str)
  | [] => .nil
  | y :: ys => .cons (.str y) dp_strs
theorem dp_sorts : ∀ {xs : List V} {ys : List (Str × List Str)}, Paired (SortV K H) xs ys → DpAll K H xs (ys.map sortD)
  | _, _, .nil => .nil
  | _, _, .cons h t => by
    obtain ⟨a, c, rfl, h1, h2⟩ := h
    exact .cons (.tup h1 (.cons (.str _) (.cons (.tup h2 dp_strs) .nil))) (dp_sorts t)
theorem dp_prims : ∀ {xs : List V} {ys : List (Str × Nat)}, Paired (PrimV K H) xs ys → DpAll K H xs (ys.map primD)
  | _, _, .nil => .nil
  | _, _, .cons h t => by
    obtain ⟨a, rfl, h1⟩ := h
    exact .cons (.tup h1 (.cons (.str _) (.cons (.int _) .nil))) (dp_prims t)
end
theorem vm_find {α : Type} {F : Mv → Str × α → Prop} (hF : ∀ q x, F q x → q.1 = .text x.1) (y : Str) : ∀ {mv : List Mv} {ys : List (Str × α)}, Paired F mv ys →
    (vM mv (.text y) = none ∧ ys.find? (fun p => decide (p.1 = y)) = none) ∨ ∃ q x, vM mv (.text y) = some q.2.2 ∧ ys.find? (fun p => decide (p.1 = y)) = some x ∧ F q x
  | _, _, .nil => .inl ⟨rfl, rfl⟩
  | _, _, .cons (a := q) (b := x) h t => by
    have ih := vm_find hF y t
    have h1 := hF _ _ h
    unfold vM
    rw [List.find?_cons, List.find?_cons, h1]
    by_cases z : x.1 = y
    · rw [decide_eq_true (show NestedKey.text x.1 = NestedKey.text y by rw [z]), decide_eq_true z]
      exact .inr ⟨q, x, rfl, rfl, h⟩
    · rw [decide_eq_false (fun e => z (by injection e)), decide_eq_false z]
      exact ih
section
variable {P : Program} {w : World} {K : PySem.W.Frag} {mg : Str → Option Value} {base : Heap} {f C CU CN fU : Addr} {fd fdU : FuncData}
abbrev n_is_key : List Str := ["table", "value"]
theorem sc_is_key : FnScope n_is_key ["table", "value"] (defScope s_is_key) := ⟨rfl, rfl, rfl, by decide +kernel, rfl, by decide +kernel, by decide +kernel⟩
theorem ok_is_key (F : Fun K "is_key" "is_key" s_is_key f fd) (m_isinstance : mg "isinstance" = none) (m_str : mg "str" = none) : FnOk P w K mg base CX0 1 f fd ["table", "value"] (spIsKey K w) := by
  refine F.ok sc_is_key (fun vs H Q E h => ?_) (fun cdv A outer s H vs Q E hr h => ?_)
  · obtain ⟨T, mv, v, d, rfl, _⟩ := h
    rfl
  obtain ⟨T, mv, v, d, rfl, hm, hd, q⟩ := h
  refine ⟨_, (pss_one (ps_ret (pe_and (pe_callB (call_isiD (K := K) (w := w)) (by rfl) m_isinstance (by decide +kernel) (pa_cons (pv 1) (pa_cons (pe_bltn (v := .ty "str") (by rfl) m_str (by decide +kernel) rfl) pa_nil))) (pe_one (pe_cmpR (op_inM (K := K) (w := w) (units40 hr)) (pv 1) (pv 0) (by rfl)))))), ?_⟩
  have qq := q H (Ex.refl H)
  refine ⟨_, rfl, v, _, d, _, rfl, hd, kit_str d, _, rfl, ?_⟩
  cases hd with
  | str x => exact ite2 (fun _ => ⟨_, rfl, _, rfl, T, mv, .text x, rfl, hm, KyV.text x, (by simp [NestedKey.depth]), qq⟩) (fun z => absurd rfl z)
  | non => exact ite2 (fun z => by cases z) (fun _ => qq)
  | bl b => exact ite2 (fun z => by cases z) (fun _ => qq)
  | int i => exact ite2 (fun z => by cases z) (fun _ => qq)
  | tup _ _ => exact ite2 (fun z => by cases z) (fun _ => qq)
  | lst _ _ _ => exact ite2 (fun z => by cases z) (fun _ => qq)
  | dct _ _ => exact ite2 (fun z => by cases z) (fun _ => qq)
abbrev n_UnknownName___init__ : List Str := ["self", "name"]
theorem sc_UnknownName___init__ : FnScope n_UnknownName___init__ ["self", "name"] (defScope s_UnknownName___init__) := ⟨rfl, rfl, rfl, by decide +kernel, rfl, by decide +kernel, by decide +kernel⟩
theorem ok_uinit (F : Fun K "__init__" "UnknownName.__init__" s_UnknownName___init__ f fd) (U : UTxt K mg CU f) (BI : BaseI K CN "LookupError.__init__") (g_NameMissing : mg "NameMissing" = some (.ref CN)) :
    FnOk P w K mg base CX0 1 f fd ["self", "name"] (spUInit K CU) := by
  refine F.ok sc_UnknownName___init__ (fun vs H Q E h => ?_) (fun cdv A outer s H vs Q E hr h => ?_)
  · obtain ⟨a, v, rfl, _⟩ := h
    rfl
  obtain ⟨a, v, rfl, ha, q⟩ := h
  refine ⟨_, (pss_cons (ps_expr (pe_baseI PySem.F.excBase_LookupError BI (by rfl) g_NameMissing (pa_cons (pv 0) (pa_cons pe_str pa_nil))))
  (pss_one (ps_first (newId := "LookupError.__new__") VfX.tlLE (pv 0) (pv 1)))), ?_⟩
  exact ⟨_, rfl, a, CU, _, rfl, by decide, U.x, ha, _, rfl, _, rfl, a, CU, rfl, U.x, U.no, ha, fun dx n1 n2 => q dx n1 n2⟩
abbrev n_Book_sorts : List Str := ["self"]
theorem sc_Book_sorts : FnScope n_Book_sorts ["self"] (defScope s_Book_sorts) := ⟨rfl, rfl, rfl, by decide +kernel, rfl, by decide +kernel, by decide +kernel⟩
theorem ok_sorts (F : Fun K "sorts" "Book.sorts" s_Book_sorts f fd) (M : BkTxt K C) (m_list : mg "list" = none) : FnOk P w K mg base CX0 1 f fd ["self"] (spLst K w C (RSorts K)) := by
  refine F.ok sc_Book_sorts (fun vs H Q E h => ?_) (fun cdv A outer s H vs Q E hr h => ?_)
  · obtain ⟨p, b, rfl, _⟩ := h
    rfl
  obtain ⟨p, b, rfl, ⟨dx, s, pr, po, re, wd, ct, hp, hb⟩, q⟩ := h
  obtain ⟨xs, h1, h2⟩ := hb.s
  refine ⟨_, (pss_one (ps_ret (pe_callTy call_list_of (by rfl) m_list (by decide +kernel) (pa_cons (pe_fld (pv 0) rfl) pa_nil)))), ?_⟩
  exact ⟨_, rfl, p, C, dx, _, _, rfl, hp, M.cl, M.n0, rfl, s, xs, rfl, .inr h1, fun l nl => q l xs _ (Ex.new nl) nl upd_same (pairedTo h2 fun _ _ g => g.to (Evl.ex_t (Ex.new nl)))⟩
abbrev n_Book_primitives : List Str := ["self"]
theorem sc_Book_primitives : FnScope n_Book_primitives ["self"] (defScope s_Book_primitives) := ⟨rfl, rfl, rfl, by decide +kernel, rfl, by decide +kernel, by decide +kernel⟩
theorem ok_primitives (F : Fun K "primitives" "Book.primitives" s_Book_primitives f fd) (M : BkTxt K C) (m_list : mg "list" = none) : FnOk P w K mg base CX0 1 f fd ["self"] (spLst K w C (RPrims K)) := by
  refine F.ok sc_Book_primitives (fun vs H Q E h => ?_) (fun cdv A outer s H vs Q E hr h => ?_)
  · obtain ⟨p, b, rfl, _⟩ := h
    rfl
  obtain ⟨p, b, rfl, ⟨dx, s, pr, po, re, wd, ct, hp, hb⟩, q⟩ := h
  obtain ⟨xs, h1, h2⟩ := hb.pr
  refine ⟨_, (pss_one (ps_ret (pe_callTy call_list_of (by rfl) m_list (by decide +kernel) (pa_cons (pe_fld (pv 0) rfl) pa_nil)))), ?_⟩
  exact ⟨_, rfl, p, C, dx, _, _, rfl, hp, M.cl, M.n1, rfl, pr, xs, rfl, .inr h1, fun l nl => q l xs _ (Ex.new nl) nl upd_same (pairedTo h2 fun _ _ g => g.to (Evl.ex_t (Ex.new nl)))⟩
abbrev n_Book_ports : List Str := ["self"]
theorem sc_Book_ports : FnScope n_Book_ports ["self"] (defScope s_Book_ports) := ⟨rfl, rfl, rfl, by decide +kernel, rfl, by decide +kernel, by decide +kernel⟩
theorem ok_ports (F : Fun K "ports" "Book.ports" s_Book_ports f fd) (M : BkTxt K C) (m_list : mg "list" = none) : FnOk P w K mg base CX0 1 f fd ["self"] (spLst K w C RPorts) := by
  refine F.ok sc_Book_ports (fun vs H Q E h => ?_) (fun cdv A outer s H vs Q E hr h => ?_)
  · obtain ⟨p, b, rfl, _⟩ := h
    rfl
  obtain ⟨p, b, rfl, ⟨dx, s, pr, po, re, wd, ct, hp, hb⟩, q⟩ := h
  refine ⟨_, (pss_one (ps_ret (pe_callTy call_list_of (by rfl) m_list (by decide +kernel) (pa_cons (pe_fld (pv 0) rfl) pa_nil)))), ?_⟩
  exact ⟨_, rfl, p, C, dx, _, _, rfl, hp, M.cl, M.n2, rfl, po, _, rfl, .inr hb.po, fun l nl => q l _ _ (Ex.new nl) nl upd_same rfl⟩
abbrev n_Book_reasons : List Str := ["self"]
theorem sc_Book_reasons : FnScope n_Book_reasons ["self"] (defScope s_Book_reasons) := ⟨rfl, rfl, rfl, by decide +kernel, rfl, by decide +kernel, by decide +kernel⟩
theorem ok_reasons (F : Fun K "reasons" "Book.reasons" s_Book_reasons f fd) (M : BkTxt K C) (m_list : mg "list" = none) : FnOk P w K mg base CX0 1 f fd ["self"] (spLst K w C RReas) := by
  refine F.ok sc_Book_reasons (fun vs H Q E h => ?_) (fun cdv A outer s H vs Q E hr h => ?_)
  · obtain ⟨p, b, rfl, _⟩ := h
    rfl
  obtain ⟨p, b, rfl, ⟨dx, s, pr, po, re, wd, ct, hp, hb⟩, q⟩ := h
  refine ⟨_, (pss_one (ps_ret (pe_callTy call_list_of (by rfl) m_list (by decide +kernel) (pa_cons (pe_fld (pv 0) rfl) pa_nil)))), ?_⟩
  exact ⟨_, rfl, p, C, dx, _, _, rfl, hp, M.cl, M.n3, rfl, re, _, rfl, .inr hb.re, fun l nl => q l _ _ (Ex.new nl) nl upd_same rfl⟩
abbrev n_Book_words : List Str := ["self", "sort"]
theorem sc_Book_words : FnScope n_Book_words ["self", "sort"] (defScope s_Book_words) := ⟨rfl, rfl, rfl, by decide +kernel, rfl, by decide +kernel, by decide +kernel⟩
theorem ok_words (F : Fun K "words" "Book.words" s_Book_words f fd) (M : BkTxt K C) (U : UTxt K mg CU fU) (G_U : FnOk P w K mg base CX0 1 fU fdU ["self", "name"] (spUInit K CU)) (b_U : Binds K fdU ["self", "name"] []) (m_list : mg "list" = none)
    (h1 : Has P w K mg base 1 "is_key" ["table", "value"] (spIsKey K w)) : FnOk P w K mg base (L2.CX P w) 3 f fd ["self", "sort"] (spWords K w C CU) := by
  obtain ⟨f1, fd1, G_is_key, m_is_key, k_is_key, b_is_key⟩ := h1
  refine F.okX sc_Book_words (fun vs H Q E h => ?_) (fun cdv A outer s H vs Q E hr h => ?_)
  · obtain ⟨p, b, v, d, rfl, _⟩ := h
    rfl
  obtain ⟨p, b, v, d, rfl, ⟨dx, s, pr, po, re, wd, ct, hp, hb⟩, hd, q1, q2⟩ := h
  refine ⟨_, (pss_cons (ps_if (pt_not (pt_val (pe_call G_is_key (hr.mono (by omega)) (by rfl) m_is_key k_is_key b_is_key .nil pass0 (pa_cons (pe_fld (pv 0) rfl) (pa_cons (pv 1) pa_nil)))))
  (pss_one (ps_raise rfl (takes_of rfl rfl rfl rfl) (pmk_x PySem.F.excBase_LookupError U.x (raises_own U.ex U.ty) U.iC U.tI G_U (hr.mono (by omega)) b_U pass0 (by rfl) U.gU (pa_cons (pv 1) pa_nil))))
  pss_nil)
  (pss_one (ps_ret (pe_callTy call_list_of (by rfl) m_list (by decide +kernel) (pa_cons (pe_mget (K := K) (w := w) (units40 hr) (pe_fld (pv 0) rfl) (pv 1) (fun _ _ => rfl)) pa_nil))))), ?_⟩
  obtain ⟨mv, w0, w1, w2⟩ := hb.wd
  have dich : (keyD mv d = false ∧ wLook b d = none) ∨ ∃ x q y, d = .str x ∧ vM mv (.text x) = some q.2.2 ∧ WdR K H q y ∧ wLook b d = some y.2 ∧ keyD mv d = true := by
    cases d with
    | str x =>
      rcases vm_find (F := WdR K H) (fun q x h => h.1) x w2 with ⟨h1, h2⟩ | ⟨q, y, h1, h2, h3⟩
      · exact .inl ⟨by show (vM mv (.text x)).isSome = false; rw [h1]; rfl, by show ((b.sorts ++ [whyS b.reasons]).find? fun p => decide (p.1 = x)).map (·.2) = none; rw [h2]; rfl⟩
      · exact .inr ⟨x, q, y, rfl, h1, h3, by show ((b.sorts ++ [whyS b.reasons]).find? fun p => decide (p.1 = x)).map (·.2) = _; rw [h2]; rfl, by show (vM mv (.text x)).isSome = true; rw [h1]; rfl⟩
    | _ => exact .inl ⟨rfl, rfl⟩
  refine ⟨_, rfl, p, C, dx, _, _, rfl, hp, M.cl, M.n4, rfl, _, rfl, wd, mv, v, d, rfl, w1, hd, fun H1 e1 => ⟨_, rfl, ?_⟩⟩
  rcases dich with ⟨hk, hl⟩ | ⟨x, q, y, rfl, h1, ⟨_, c, h3, h4⟩, hl, hk⟩
  · rw [hk]
    refine iteT ⟨_, rfl, (by show (1 : Nat) ≤ 1000; decide), fun a na => ⟨a, v, rfl, upd_same, fun dx2 nd da => ⟨rfl, dx2, [("name", v)], upd_same, by rw [upd_ne da]; exact upd_same, by rw [upd_ne da] at nd; exact nd, ?_⟩⟩⟩
    have nd' : H1 dx2 = none := by rw [upd_ne da] at nd; exact nd
    refine q2 hl _ dx2 (e1.trans fun b o hb => ?_) upd_same
    rw [upd_ne (ne_of_none hb nd'), del_ne (ne_of_none hb na), upd_ne (ne_of_none hb na), upd_ne (ne_of_none hb nd'), upd_ne (ne_of_none hb na)]
    exact hb
  · rw [hk]
    refine iteF ?_
    cases hd
    refine ⟨_, rfl, p, C, dx, _, _, rfl, e1 _ _ hp, M.cl, M.n4, rfl, _, rfl, wd, mv, .text x, _, rfl, w1.mono e1, KyV.text x, (by simp [NestedKey.depth]), h1, ?_⟩
    rw [h3]
    exact ⟨c, _, rfl, .inr (Evl.ex_t e1 h4), fun l nl => q1 _ hl l _ (e1.trans (Ex.new nl)) (Evl.fresh_back e1 nl) upd_same⟩
abbrev n_Book_count : List Str := ["self", "primitive"]
theorem sc_Book_count : FnScope n_Book_count ["self", "primitive"] (defScope s_Book_count) := ⟨rfl, rfl, rfl, by decide +kernel, rfl, by decide +kernel, by decide +kernel⟩
theorem ok_count (F : Fun K "count" "Book.count" s_Book_count f fd) (M : BkTxt K C) (U : UTxt K mg CU fU) (G_U : FnOk P w K mg base CX0 1 fU fdU ["self", "name"] (spUInit K CU)) (b_U : Binds K fdU ["self", "name"] [])
    (h1 : Has P w K mg base 1 "is_key" ["table", "value"] (spIsKey K w)) : FnOk P w K mg base (L2.CX P w) 3 f fd ["self", "primitive"] (spCount K w C CU) := by
  obtain ⟨f1, fd1, G_is_key, m_is_key, k_is_key, b_is_key⟩ := h1
  refine F.okX sc_Book_count (fun vs H Q E h => ?_) (fun cdv A outer s H vs Q E hr h => ?_)
  · obtain ⟨p, b, v, d, rfl, _⟩ := h
    rfl
  obtain ⟨p, b, v, d, rfl, ⟨dx, s, pr, po, re, wd, ct, hp, hb⟩, hd, q1, q2⟩ := h
  refine ⟨_, (pss_cons (ps_if (pt_not (pt_val (pe_call G_is_key (hr.mono (by omega)) (by rfl) m_is_key k_is_key b_is_key .nil pass0 (pa_cons (pe_fld (pv 0) rfl) (pa_cons (pv 1) pa_nil)))))
  (pss_one (ps_raise rfl (takes_of rfl rfl rfl rfl) (pmk_x PySem.F.excBase_LookupError U.x (raises_own U.ex U.ty) U.iC U.tI G_U (hr.mono (by omega)) b_U pass0 (by rfl) U.gU (pa_cons (pv 1) pa_nil))))
  pss_nil)
  (pss_one (ps_ret (pe_mget (K := K) (w := w) (units40 hr) (pe_fld (pv 0) rfl) (pv 1) (fun _ _ => rfl))))), ?_⟩
  obtain ⟨mv, w0, w1, w2⟩ := hb.ct
  have dich : (keyD mv d = false ∧ cLook b d = none) ∨ ∃ x q y, d = .str x ∧ vM mv (.text x) = some q.2.2 ∧ CtR q y ∧ cLook b d = some y.2 ∧ keyD mv d = true := by
    cases d with
    | str x =>
      rcases vm_find (F := CtR) (fun q x h => h.1) x w2 with ⟨h1, h2⟩ | ⟨q, y, h1, h2, h3⟩
      · exact .inl ⟨by show (vM mv (.text x)).isSome = false; rw [h1]; rfl, by show (b.prims.find? fun p => decide (p.1 = x)).map (·.2) = none; rw [h2]; rfl⟩
      · exact .inr ⟨x, q, y, rfl, h1, h3, by show (b.prims.find? fun p => decide (p.1 = x)).map (·.2) = _; rw [h2]; rfl, by show (vM mv (.text x)).isSome = true; rw [h1]; rfl⟩
    | _ => exact .inl ⟨rfl, rfl⟩
  refine ⟨_, rfl, p, C, dx, _, _, rfl, hp, M.cl, M.n5, rfl, _, rfl, ct, mv, v, d, rfl, w1, hd, fun H1 e1 => ⟨_, rfl, ?_⟩⟩
  rcases dich with ⟨hk, hl⟩ | ⟨x, q, y, rfl, h1, ⟨_, h3⟩, hl, hk⟩
  · rw [hk]
    refine iteT ⟨_, rfl, (by show (1 : Nat) ≤ 1000; decide), fun a na => ⟨a, v, rfl, upd_same, fun dx2 nd da => ⟨rfl, dx2, [("name", v)], upd_same, by rw [upd_ne da]; exact upd_same, by rw [upd_ne da] at nd; exact nd, ?_⟩⟩⟩
    have nd' : H1 dx2 = none := by rw [upd_ne da] at nd; exact nd
    refine q2 hl _ dx2 (e1.trans fun b o hb => ?_) upd_same
    rw [upd_ne (ne_of_none hb nd'), del_ne (ne_of_none hb na), upd_ne (ne_of_none hb na), upd_ne (ne_of_none hb nd'), upd_ne (ne_of_none hb na)]
    exact hb
  · rw [hk]
    refine iteF ?_
    cases hd
    refine ⟨_, rfl, p, C, dx, _, _, rfl, e1 _ _ hp, M.cl, M.n5, rfl, _, rfl, ct, mv, .text x, _, rfl, w1.mono e1, KyV.text x, (by simp [NestedKey.depth]), h1, ?_⟩
    rw [h3]
    exact q1 _ hl H1 e1
abbrev n_Book__parts : List Str := ["self"]
theorem sc_Book__parts : FnScope n_Book__parts ["self"] (defScope s_Book__parts) := ⟨rfl, rfl, rfl, by decide +kernel, rfl, by decide +kernel, by decide +kernel⟩
theorem ok_parts (F : Fun K "_parts" "Book._parts" s_Book__parts f fd) (M : BkTxt K C) : FnOk P w K mg base CX0 1 f fd ["self"] (spParts K w C) := by
  refine F.ok sc_Book__parts (fun vs H Q E h => ?_) (fun cdv A outer s H vs Q E hr h => ?_)
  · obtain ⟨p, b, rfl, _⟩ := h
    rfl
  obtain ⟨p, b, rfl, ⟨dx, s, pr, po, re, wd, ct, hp, hb⟩, q⟩ := h
  refine ⟨_, (pss_one (ps_ret (pe_tup (pa_cons (pe_fld (pv 0) rfl) (pa_cons (pe_fld (pv 0) rfl) (pa_cons (pe_fld (pv 0) rfl) (pa_cons (pe_fld (pv 0) rfl) pa_nil))))))), ?_⟩
  obtain ⟨xs, s1, s2⟩ := hb.s
  obtain ⟨ys, p1, p2⟩ := hb.pr
  refine ⟨_, rfl, p, C, dx, _, _, rfl, hp, M.cl, M.n0, rfl, _, rfl, p, C, dx, _, _, rfl, hp, M.cl, M.n1, rfl, _, rfl, p, C, dx, _, _, rfl, hp, M.cl, M.n2, rfl, _, rfl, p, C, dx, _, _, rfl, hp, M.cl, M.n3, rfl, (by show (4 : Nat) ≤ sizeLine; decide), fun t nt => ?_⟩
  have e := Ex.new (o := HO.tup [V.ref s, V.ref pr, V.ref po, V.ref re]) nt
  refine q t _ e (.tup (.inl (.inl upd_same)) (.cons (.tup (Evl.ex_t e s1) (dp_sorts (pairedTo s2 fun _ _ g => g.to (Evl.ex_t e)))) (.cons (.tup (Evl.ex_t e p1) (dp_prims (pairedTo p2 fun _ _ g => g.to (Evl.ex_t e)))) (.cons (.tup (Evl.ex_t e hb.po) dp_strs) (.cons (.tup (Evl.ex_t e hb.re) dp_strs) .nil)))))
abbrev n_Book___eq__ : List Str := ["self", "other"]
theorem sc_Book___eq__ : FnScope n_Book___eq__ ["self", "other"] (defScope s_Book___eq__) := ⟨rfl, rfl, rfl, by decide +kernel, rfl, by decide +kernel, by decide +kernel⟩
theorem ok_eq {fP : Addr} {fdP : FuncData} (F : Fun K "__eq__" "Book.__eq__" s_Book___eq__ f fd) (M : BkTxt K C) (Ic : C8.InsC K C) (g_Book : mg "Book" = some (.ref C)) (m_isinstance : mg "isinstance" = none) (mm_parts : Meth K C "_parts" fP) (GM_parts : FnOk P w K mg base CX0 1 fP fdP ["self"] (spParts K w C)) (bm_parts : Binds K fdP ["self"] []) :
    FnOk P w K mg base CX0 2 f fd ["self", "other"] (spEq K w C) := by
  refine F.ok sc_Book___eq__ (fun vs H Q E h => ?_) (fun cdv A outer s H vs Q E hr h => ?_)
  · obtain ⟨p, b, y, rfl, _⟩ := h
    rfl
  obtain ⟨p, b, y, rfl, hb, hh⟩ := h
  refine ⟨_, (pss_one (ps_ret (pe_and (pe_callB (call_isiCD (K := K) (w := w) Ic) (by rfl) m_isinstance (by decide +kernel) (pa_cons (pv 1) (pa_cons (pe_glob (v := .ref C) (by rfl) g_Book rfl) pa_nil))) (pe_one (pe_cmpR (op_eqDN (K := K) (n := 64) (units64 hr)) (pe_meth0 (pv 0) M.cl mm_parts GM_parts (hr.mono (by omega)) bm_parts .nil pass0) (pe_meth0 (pv 1) M.cl mm_parts GM_parts (hr.mono (by omega)) bm_parts .nil pass0) (nomark _)))))), ?_⟩
  rcases hh with ⟨p', b', rfl, hb', sh, sh', q⟩ | ⟨d, hd, hk, q⟩
  · obtain ⟨dx', s', pr', po', re', wd', ct', hp', _⟩ := id hb'
    obtain ⟨dx, s0, pr, po, re, wd, ct, hp, _⟩ := id hb
    refine ⟨_, rfl, _, rfl, .inl ⟨p', dx', _, rfl, hp', _, rfl, ite2 (fun _ => ?_) (fun z => absurd rfl z)⟩⟩
    refine ⟨_, rfl, p, dx, _, rfl, hp, rfl, p, b, rfl, hb, fun t H1 e1 hd1 => ⟨_, rfl, p', dx', _, rfl, e1 _ _ hp', rfl, p', b', rfl, hb'.up (UpL.of e1), fun t' H2 e2 hd2 => ?_⟩⟩
    exact ⟨bkD b, bkD b', dp_ex e2 hd1, hd2, SeqAt.canLay_of_shaped sh, SeqAt.canLay_of_shaped sh', SeqAt.depth_of_shaped sh, q H2 (e1.trans e2)⟩
  · exact ⟨_, rfl, _, rfl, .inr ⟨d, hd, hk, _, rfl, ite2 (fun z => by cases z) (fun _ => q)⟩⟩
end
end L2.Vf.K01
/-! One of a list, some of a list, pools. -/
namespace L2.Vf.K01
open PySem PySem.Spec PyProof.Rows
open Evl (Ex Ev EvT EvL EvA)
theorem seq_to {s r : TS} {D : Ends} {σ : St} {H : Hp} (Post : St → Hp → Prop) (h1 : ∀ N : St → Hp → Prop, (∀ σ' H', Post σ' H' → N σ' H') → s { D with nx := N } σ H) (h2 : ∀ σ' H', Post σ' H' → r D σ' H') : tSeq s r D σ H := h1 (r D) h2
theorem erase_map {α β : Type} (f : α → β) : ∀ (l : List α) (z : Nat), (l.map f).eraseIdx z = (l.eraseIdx z).map f
  | [], z => by cases z <;> rfl
  | x :: l, 0 => rfl
  | x :: l, z + 1 => by
    show f x :: (l.map f).eraseIdx z = f x :: (l.eraseIdx z).map f
    rw [erase_map f l z]
theorem seqI_nat {z n : Nat} (h : z < n) : seqIndex? (z : Int) n = some z := by
  unfold seqIndex?
  have h1 : ¬ ((z : Int) < 0) := by omega
  rw [if_neg h1]
  simp [h]
theorem erase_out {α : Type} {ns : List α} (nd : ns.Nodup) {z : Nat} {x : α} (h : ns[z]? = some x) : x ∉ ns.eraseIdx z := fun y => by
  obtain ⟨i, hi, e⟩ := List.mem_eraseIdx_iff_getElem?.mp y
  have li := (List.getElem?_eq_some_iff.mp e).1
  exact hi ((List.getElem?_inj li nd).mp (e.trans h.symm))
abbrev s__law_of : Stmt := top 29
abbrev s__law_some : Stmt := top 30
abbrev s__law_pool : Stmt := top 39
/-- some of a list, all at different places -/
def spSome (K : PySem.W.Frag) : Sp := fun vs H Q _ => ∃ (p c a : Addr) (xs : List Str) (lo hi : Nat), vs = [.ref p, .ref a, .int (lo : Int), .int (hi : Int)] ∧ Src2 H p c ∧ SqL K (hide [p, c] H) a (xs.map V.str) ∧ xs.Nodup ∧ lo ≤ hi ∧ hi ≤ xs.length ∧ xs.length ≤ 20 ∧
  ∀ l (ys : List Str) H', Src2 H' p c → But [p, c] H H' → H l = none → l ≠ sysModules → H' l = some (.lst (ys.map V.str)) → ys.Nodup → (∀ y ∈ ys, y ∈ xs) → lo ≤ ys.length → ys.length ≤ hi → Q (.ref l) H'
def eight : List Str := ["a", "x1", "r1", "k1", "b", "u", "v", "m1"]
def spPool (K : PySem.W.Frag) : Sp := fun vs H Q _ => ∃ (p c a : Addr) (xs : List Str), vs = [.ref p, .ref a] ∧ Src2 H p c ∧ SqL K (hide [p, c] H) a (xs.map V.str) ∧ xs.length ≤ 8 ∧
  ∀ l (ys : List Str) H', Src2 H' p c → But [p, c] H H' → SqL K (hide [p, c] H') l (ys.map V.str) → (ys = xs ∨ ys = eight.take xs.length) → Q (.ref l) H'
section
variable {P : Program} {w : World} {K : PySem.W.Frag} {mg : Str → Option Value} {base : Heap} {f : Addr} {fd : FuncData}
abbrev n__law_of : List Str := ["_law_source_here", "_law_some_here"]
theorem sc__law_of : FnScope n__law_of ["_law_source_here", "_law_some_here"] (defScope s__law_of) := ⟨rfl, rfl, rfl, by decide +kernel, rfl, by decide +kernel, by decide +kernel⟩
theorem ok_of (F : Fun K "_law_of" "_law_of" s__law_of f fd) (m_len : mg "len" = none) (hp : Has P w K mg base 1 "_law_pick" ["_law_source_here", "_law_many"] spPick2) :
    FnOk P w K mg base CX0 2 f fd ["_law_source_here", "_law_some_here"] (spOf2 K) := by
  obtain ⟨f1, fd1, G__law_pick, m__law_pick, k__law_pick, b__law_pick⟩ := hp
  refine F.ok sc__law_of (fun vs H Q E h => ?_) (fun cdv A outer s H vs Q E hr h => ?_)
  · obtain ⟨p, c, a, xs, rfl, _⟩ := h
    rfl
  obtain ⟨p, c, a, xs, rfl, hS, hl, l1, l2, q⟩ := h
  refine ⟨_, (pss_one (ps_ret (pe_ix (ix_listK (K := K)) (pv 1) (pe_call G__law_pick (hr.mono (by omega)) (by rfl) m__law_pick k__law_pick b__law_pick .nil pass0 (pa_cons (pv 0) (pa_cons (pe_callB (call_lenK (K := K)) (by rfl) m_len PySem.boot_len (pa_cons (pv 1) pa_nil)) pa_nil))) (fun _ _ => rfl)))), ?_⟩
  refine ⟨_, rfl, _, rfl, _, rfl, a, _, rfl, .inl (Evl.ex_l hide_ex hl), p, c, _, rfl, hS, by omega, by omega, fun r H1 r0 r1 S1 b1 => ?_⟩
  obtain ⟨r, rfl⟩ := Int.eq_ofNat_of_zero_le r0
  obtain ⟨v, hv⟩ : ∃ v, xs[r]? = some v := ⟨_, List.getElem?_eq_getElem (by omega)⟩
  exact ⟨a, _, _, v, rfl, rfl, Evl.ex_l hide_ex (Evl.ex_l b1 hl), atI_nat hv, q r v H1 hv S1 b1⟩
abbrev n__law_some : List Str := ["_law_source_here", "_law_pool_here", "_law_least", "_law_most", "_law_left", "_law_found", "_law_lap"]
theorem sc__law_some : FnScope n__law_some ["_law_source_here", "_law_pool_here", "_law_least", "_law_most"] (defScope s__law_some) := ⟨rfl, rfl, rfl, by decide +kernel, rfl, by decide +kernel, by decide +kernel⟩
theorem ok_some (F : Fun K "_law_some" "_law_some" s__law_some f fd) (m_len : mg "len" = none) (m_list : mg "list" = none) (m_range : mg "range" = none) (hp : Has P w K mg base 1 "_law_pick" ["_law_source_here", "_law_many"] spPick2) :
    FnOk P w K mg base CX0 2 f fd ["_law_source_here", "_law_pool_here", "_law_least", "_law_most"] (spSome K) := by
  obtain ⟨f1, fd1, G__law_pick, m__law_pick, k__law_pick, b__law_pick⟩ := hp
  refine F.ok sc__law_some (fun vs H Q E h => ?_) (fun cdv A outer s H vs Q E hr h => ?_)
  · obtain ⟨p, c, a, xs, lo, hi, rfl, _⟩ := h
    rfl
  obtain ⟨p, c, a, xs, lo, hi, rfl, hS, hl, nd, h1, h2, h3, q⟩ := h
  refine ⟨_, (pss_cons (ps_par (i := 4) (j := 5) (by rfl) sc__law_some.nd rfl rfl (by decide) rfl rfl (pa_cons (pe_callTy call_list_of (by rfl) m_list (by decide +kernel) (pa_cons (pv 1) pa_nil)) (pa_cons (pe_lstN pa_nil) pa_nil)) (by rfl))
  (pss_cons (ps_for PassesOwn.never rfl (pi_range1 rfl m_range (pa_cons (pe_op op_add (pv 2) (pe_call G__law_pick (hr.mono (by omega)) (by rfl) m__law_pick k__law_pick b__law_pick .nil pass0 (pa_cons (pv 0) (pa_cons (pe_op op_add (pe_op op_sub (pv 3) (pv 2)) pe_int) pa_nil)))) pa_nil)) (pg_name (i := 6) sc__law_some.nd rfl (.inl rfl))
  (pss_one (ps_expr (pe_bm PySem.F.plainAttrs_list PySem.F.slot_list_append PySem.F.type_list_append mt_append (pv 5) (pa_cons (pe_bm PySem.F.plainAttrs_list PySem.F.slot_list_pop PySem.F.type_list_pop mt_popAt (pv 4) (pa_cons (pe_call G__law_pick (hr.mono (by omega)) (by rfl) m__law_pick k__law_pick b__law_pick .nil pass0 (pa_cons (pv 0) (pa_cons (pe_callB (call_lenK (K := K)) (by rfl) m_len PySem.boot_len (pa_cons (pv 4) pa_nil)) pa_nil))) pa_nil)) pa_nil)))))
  (pss_one (ps_ret (pv 5))))), ?_⟩
  have sz : sizeLine = 16777216 := sizeLine_eq
  refine ⟨_, rfl, a, _, rfl, .inl (Evl.ex_l hide_ex hl), fun L nL => ⟨(by show 0 ≤ sizeLine; omega), fun D nD sD => ⟨_, _, rfl, ?_⟩⟩⟩
  have e0 : Ex H (upd (upd H L (.lst (xs.map V.str))) D (.lst [])) := (Ex.new nL).trans (Ex.new nD)
  have LD : L ≠ D := ne_of_none upd_same nD
  have hL0 : (upd (upd H L (.lst (xs.map V.str))) D (.lst [])) L = some (.lst (xs.map V.str)) := by rw [upd_ne LD]; exact upd_same
  have hD0 : (upd (upd H L (.lst (xs.map V.str))) D (.lst [])) D = some (.lst (([] : List Str).map V.str)) := upd_same
  have nDH : H D = none := Evl.fresh_back (Ex.new nL) nD
  generalize upd (upd H L (.lst (xs.map V.str))) D (.lst []) = H0 at e0 hL0 hD0 ⊢
  have LS : L ∉ [p, c] := hS.kn.off nL
  have DS : D ∉ [p, c] := hS.kn.off nDH
  dsimp only
  refine ⟨_, rfl, _, rfl, _, rfl, _, rfl, _, _, rfl, rfl, _, _, rfl, rfl, p, c, _, rfl, hS.ex e0, by omega, by omega, fun r H1 r0 r1 S1 b1 => ?_⟩
  refine ⟨_, _, rfl, rfl, _, rfl, by omega, by omega, for_range (lo := 0) (n := ((lo : Int) + r).toNat) (fun i σ H' => ∃ (zs ys : List Str) (y6 : Option V), σ = [some (.ref p), some (.ref a), some (.int (lo : Int)), some (.int (hi : Int)), some (.ref L), some (.ref D), y6] ∧ Src2 H' p c ∧ But [p, c] H H' ∧
      H' L = some (.lst (zs.map V.str)) ∧ H' D = some (.lst (ys.map V.str)) ∧ zs.Nodup ∧ ys.Nodup ∧ (∀ y ∈ ys, y ∉ zs) ∧ (∀ y ∈ ys, y ∈ xs) ∧ (∀ z ∈ zs, z ∈ xs) ∧ ys.length = i ∧ zs.length + i = xs.length)
    ⟨xs, [], _, rfl, S1, (But.of e0).trans b1, b1.get LS hL0, b1.get DS hD0, nd, List.nodup_nil, (fun y z => by cases z), (fun y z => by cases z), (fun z h => h), rfl, rfl⟩ ?_ ?_⟩
  · rintro i σ H2 hi ⟨zs, ys, y6, rfl, S2, b2, hL, hD, n1, n2, dj, s1, s2, ly, lz⟩
    have lz' : (zs.map V.str).length = zs.length := List.length_map _
    refine ⟨_, rfl, .inl ⟨rfl, _, SqL.of hD⟩, _, rfl, .inl ⟨rfl, _, SqL.of hL⟩, _, rfl, _, rfl, L, _, rfl, .inl (SqL.of hL), p, c, _, rfl, S2, by omega, by omega, fun z H3 z0 z1 S3 b3 => ?_⟩
    obtain ⟨z, rfl⟩ := Int.eq_ofNat_of_zero_le z0
    obtain ⟨x, hx⟩ : ∃ x, zs[z]? = some x := ⟨_, List.getElem?_eq_getElem (by omega)⟩
    have hL3 := b3.get LS hL
    have hD3 := b3.get DS hD
    refine ⟨L, _, (z : Int), z, .str x, rfl, rfl, hL3, by omega, by omega, seqI_nat (by omega), by rw [List.getElem?_map, hx]; rfl, ?_⟩
    rw [erase_map]
    have hD4 : (upd H3 L (.lst ((zs.eraseIdx z).map V.str))) D = some (.lst (ys.map V.str)) := by rw [upd_ne LD.symm]; exact hD3
    have ey : ys.map V.str ++ [V.str x] = (ys ++ [x]).map V.str := by rw [List.map_append]; rfl
    refine ⟨D, _, _, rfl, rfl, hD4, by rw [List.length_map]; omega, zs.eraseIdx z, ys ++ [x], _, rfl, (S3.off LS).off DS, ((b2.trans b3).mut nL).mut nDH, by rw [upd_ne LD]; exact upd_same, by rw [ey]; exact upd_same, n1.sublist (List.eraseIdx_sublist _ _), ?_, ?_, ?_, fun w hw => s2 w ((List.eraseIdx_sublist zs z).subset hw), by rw [List.length_append, ly]; rfl, by rw [List.length_eraseIdx, if_pos (by omega)]; omega⟩
    · rw [List.nodup_append]
      exact ⟨n2, by simp, fun u hu w hw e => dj u hu (by rw [List.mem_singleton.mp hw] at e; rw [e]; exact List.mem_of_getElem? hx)⟩
    · intro u hu hz
      rcases List.mem_append.mp hu with y | y
      · exact dj u y ((List.eraseIdx_sublist zs z).subset hz)
      · rw [List.mem_singleton.mp y] at hz
        exact erase_out n1 hx hz
    · intro u hu
      rcases List.mem_append.mp hu with y | y
      · exact s1 u y
      · rw [List.mem_singleton.mp y]
        exact s2 x (List.mem_of_getElem? hx)
  · rintro σ H2 ⟨zs, ys, y6, rfl, S2, b2, hL, hD, n1, n2, dj, s1, s2, ly, lz⟩
    exact ⟨_, rfl, q D ys H2 S2 b2 nDH sD hD n2 s1 (by omega) (by omega)⟩
abbrev n__law_pool : List Str := ["_law_source_here", "_law_some_here"]
theorem sc__law_pool : FnScope n__law_pool ["_law_source_here", "_law_some_here"] (defScope s__law_pool) := ⟨rfl, rfl, rfl, by decide +kernel, rfl, by decide +kernel, by decide +kernel⟩
theorem ok_pool (F : Fun K "_law_pool" "_law_pool" s__law_pool f fd) (m_len : mg "len" = none) (hp : Has P w K mg base 1 "_law_pick" ["_law_source_here", "_law_many"] spPick2) :
    FnOk P w K mg base CX0 2 f fd ["_law_source_here", "_law_some_here"] (spPool K) := by
  obtain ⟨f1, fd1, G__law_pick, m__law_pick, k__law_pick, b__law_pick⟩ := hp
  refine F.ok sc__law_pool (fun vs H Q E h => ?_) (fun cdv A outer s H vs Q E hr h => ?_)
  · obtain ⟨p, c, a, xs, rfl, _⟩ := h
    rfl
  obtain ⟨p, c, a, xs, rfl, hS, hl, l8, q⟩ := h
  have hu := hu_of hr
  refine ⟨_, (pss_cons (ps_if (pt_cmp (pc_dnotin hu pe_str (pv 0)))
  (pss_one (ps_dput hu (pv 0) pe_str (pe_cmpR op_eq (pe_call G__law_pick (hr.mono (by omega)) (by rfl) m__law_pick k__law_pick b__law_pick .nil pass0 (pa_cons (pv 0) (pa_cons pe_int pa_nil))) pe_int (nomark _)) rfl))
  pss_nil)
  (pss_one (ps_ret (pe_ifExp (pt_val (pe_dget hu (pv 0) pe_str (fun _ _ => rfl))) (pe_slice (sl_listK (K := K)) (pe_lst (pa_cons pe_str (pa_cons pe_str (pa_cons pe_str (pa_cons pe_str (pa_cons pe_str (pa_cons pe_str (pa_cons pe_str (pa_cons pe_str pa_nil))))))))) po_none (po_some (pe_callB (call_lenK (K := K)) (by rfl) m_len PySem.boot_len (pa_cons (pv 1) pa_nil)))) (pv 1))))), ?_⟩
  have sz : sizeLine = 16777216 := sizeLine_eq
  refine seq_to (fun σ H' => σ = [some (.ref p), some (.ref a)] ∧ But [p, c] H H' ∧ ∃ (cells : List Int) (l m t : Int) (b : Bool), H' p = some (.dK (s2Kv c l m t [(.inr "meets", .bl b)])) ∧ H' c = some (.lst (cells.map V.int))) (fun N k => ?_) ?_
  · obtain ⟨cells, l, m, t, e, hp0, he, hc0⟩ := hS
    rcases he with rfl | ⟨b, rfl⟩
    · refine ⟨_, rfl, p, _, rfl, g2_none hp0, _, rfl, iteT ?_⟩
      refine ⟨_, rfl, p, c, 3, rfl, ⟨cells, l, m, t, [], hp0, .inl rfl, hc0⟩, by decide, by decide, fun r H1 r0 r3 S1 b1 => ?_⟩
      obtain ⟨cells1, l1, m1, t1, e1, hp1, he1, hc1⟩ := S1
      have npc : p ≠ c := ne_of hp1 hc1 (by intro z; cases z)
      refine ⟨rfl, _, rfl, p, _, rfl, p2_any hp1 he1 _, k _ _ ⟨rfl, ?_, cells1, l1, m1, t1, _, upd_same, by rw [upd_ne npc.symm]; exact hc1⟩⟩
      exact But.by fun x o x1 hx => by
        rw [upd_ne (fun z => x1 (by rw [z]; simp))]
        exact b1.get x1 hx
    · refine ⟨_, rfl, p, _, rfl, g2_meets hp0, _, rfl, iteF ?_⟩
      exact k _ _ ⟨rfl, But.refl, cells, l, m, t, b, hp0, hc0⟩
  rintro _ H1 ⟨rfl, b1, cells, l, m, t, b, hp1, hc1⟩
  have S1 : Src2 H1 p c := ⟨cells, l, m, t, _, hp1, .inr ⟨b, rfl⟩, hc1⟩
  have hl1 := Evl.ex_l b1 hl
  refine ⟨_, rfl, p, _, rfl, g2_meets hp1, b, rfl, ite2 (fun _ => ?_) (fun _ => ?_)⟩
  · refine ⟨(by show 8 ≤ sizeLine; omega), fun r nr => ?_⟩
    have e2 := Ex.new (o := HO.lst [V.str "a", V.str "x1", V.str "r1", V.str "k1", V.str "b", V.str "u", V.str "v", V.str "m1"]) nr
    refine ⟨_, rfl, a, _, rfl, .inl (Evl.ex_l (Ex.trans hide_ex e2) hl1), _, rfl, r, _, rfl, SqL.of upd_same, fun r2 nr2 => ?_⟩
    have e3 := e2.trans (Ex.new (o := HO.lst (cutV [V.str "a", V.str "x1", V.str "r1", V.str "k1", V.str "b", V.str "u", V.str "v", V.str "m1"] none (some ((xs.map V.str).length : Int)))) nr2)
    have ec : cutV [V.str "a", V.str "x1", V.str "r1", V.str "k1", V.str "b", V.str "u", V.str "v", V.str "m1"] none (some ((xs.map V.str).length : Int)) = (eight.take xs.length).map V.str := by
      rw [cut_to (by rw [List.length_map]; exact l8), List.length_map, List.map_take]
      rfl
    rw [ec] at e3 ⊢
    have rS : r2 ∉ [p, c] := (S1.kn.ex e2).off nr2
    exact q r2 _ _ (S1.ex e3) (b1.trans (But.of e3)) (SqL.of (by rw [hide_off rS]; exact upd_same)) (.inr rfl)
  · exact ⟨_, rfl, q a xs H1 S1 b1 hl1 (.inl rfl)⟩
end
end L2.Vf.K01
/-! Tuples and lists: t[::-1]. -/
namespace L2.Vf
open PySem PySem.Spec PyProof.Rows
open PySem.Calls HT
theorem adjust_rev (n : Nat) : Builtin.Slice.sliceAdjust none none (-1) (n : Int) = ((n : Int) - 1, -1) := by
  unfold Builtin.Slice.sliceAdjust
  simp
theorem places_rev (n : Nat) : Builtin.Slice.slicePlaces ((n : Int) - 1) (-1) (-1) = n := by
  unfold Builtin.Slice.slicePlaces
  have h1 : ¬ ((-1 : Int) > 0) := by omega
  simp only [h1, if_false]
  split <;> simp_all <;> omega
theorem fm_congr {α β : Type} {f g : α → Option β} : ∀ {l : List α}, (∀ a ∈ l, f a = g a) → l.filterMap f = l.filterMap g
  | [], _ => rfl
  | a :: l, h => by
    rw [List.filterMap_cons, List.filterMap_cons, h a List.mem_cons_self, fm_congr fun b hb => h b (List.mem_cons_of_mem _ hb)]
theorem pick_rev (xs : Array Value) : ((List.range xs.size).filterMap fun (m : Nat) => xs[((xs.size : Int) - 1 + (m : Int) * (-1)).toNat]?).toArray = xs.toList.reverse.toArray := by
  have e : (List.range xs.size).filterMap (fun (m : Nat) => xs[((xs.size : Int) - 1 + (m : Int) * (-1)).toNat]?) = ((List.range xs.size).map fun k => xs.size - 1 - k).filterMap (xs[·]?) := by
    rw [List.filterMap_map]
    refine fm_congr fun m hm => ?_
    have := List.mem_range.mp hm
    have z : ((xs.size : Int) - 1 + (m : Int) * (-1)).toNat = xs.size - 1 - m := by omega
    show xs[((xs.size : Int) - 1 + (m : Int) * (-1)).toNat]? = xs[xs.size - 1 - m]?
    rw [z]
  rw [e, PySem.W.krv_range, List.filterMap_reverse, PySem.W.krv_all]
section
variable {prog : Program} {w : World} {A : Around} {E : Value → Shared → Prop} {s : Shared}
theorem sliceApplied_rev {sl : Addr} {vl vu vs : Value} {n : Nat} {Q : Int × Int × Nat → Shared → Prop} (hs : s.heap.IsSliceOf sl vl vu vs) (pl : IsPart vl none) (pu : IsPart vu none) (ps : IsPart vs (some (-1)))
    (h : Q ((n : Int) - 1, -1, n) s) : wpAny (model prog w) A (Builtin.Slice.sliceApplied (.ref sl) (pure (n : Int))) Q E s := by
  obtain ⟨os, hos, hcs, hds⟩ := id hs
  unfold Builtin.Slice.sliceApplied Builtin.Slice.sliceFields
  refine wpAny_bind (wpAny_bind (wpAny_field hos hds (x := vl) rfl (wpAny_bind (wpAny_field hos hds (x := vu) rfl (wpAny_bind (wpAny_field hos hds (x := vs) rfl (wpAny_pure ?_)))))))
  refine wpAny_bind (slicePart_ ps ?_)
  show wpAny _ _ (if ((-1 : Int) == 0) = true then _ else _) _ _ s
  rw [if_neg (by decide)]
  refine wpAny_bind (slicePart_ pl (wpAny_bind (slicePart_ pu (wpAny_bind (wpAny_pure ?_)))))
  show wpAny _ _ (match Builtin.Slice.sliceAdjust none none (-1) (n : Int) with | (lo, hi) => pure (lo, (-1 : Int), Builtin.Slice.slicePlaces lo hi (-1))) _ _ s
  rw [adjust_rev]
  show wpAny _ _ (pure ((n : Int) - 1, (-1 : Int), Builtin.Slice.slicePlaces ((n : Int) - 1) (-1) (-1))) _ _ s
  rw [places_rev]
  exact wpAny_pure h
theorem getItem_tuple_rev {t sl : Addr} {items : Array Value} {vl vu vs : Value} {Q : Value → Shared → Prop} (ht : IsTup s.heap t items) (hs : s.heap.IsSliceOf sl vl vu vs) (pl : IsPart vl none) (pu : IsPart vu none) (ps : IsPart vs (some (-1)))
    (h : Q (.ref s.heap.objs.size) { s with heap := s.heap.push { cls := .type "tuple", data := .seq items.toList.reverse.toArray } })
    (hsz : items.size ≤ sizeLine) : wpAny (model prog w) A (getItem (.ref t) (.ref sl)) Q E s := by
  have htake : sizeOk (.seq items.toList.reverse.toArray) := by
    show items.toList.reverse.toArray.size ≤ sizeLine
    rw [List.size_toArray, List.length_reverse, Array.length_toList]
    exact hsz
  obtain ⟨os, hos, hcs, hds⟩ := id hs
  have hTs : s.TypeIs (.ref sl) "slice" := ⟨os, hos, hcs⟩
  unfold getItem
  try with_reducible refine wpAny_holding ?_
  first | refine wpAny_bind (wpAny_pure ?_) | skip
  refine wpAny_bind (wpAny_sequenceKey ht.typeIs (by decide) ?_)
  refine wpAny_bind (wpAny_callSpecial?_slot (name := Str.ofString "__getitem__") ht.typeIs PyProof.Rows.slot_tuple_getitem
    (wpAny_call_entry PyProof.Rows.slot_tuple_getitem ht.typeIs entry_tuple_getitem ?_ (args_tuple_getitem _ _)))
  show wpAny _ _ (Builtin.Tuple.tupleItemsOf (.ref t) >>= _) _ _ s
  refine wpAny_bind (tupleItemsOf_ ht ?_)
  refine wpAny_bind (wpAny_typeOf hTs ?_)
  rw [if_pos (by decide)]
  refine wpAny_bind (sliceApplied_rev hs pl pu ps ?_)
  have hno : ¬ ((((items.size : Int) - 1 == 0) && ((-1 : Int) == 1) && (items.size == items.size)) = true) := by
    intro q
    rw [Bool.and_eq_true, Bool.and_eq_true] at q
    exact absurd (eq_of_beq q.1.2) (by decide)
  show wpAny _ _ (if (((items.size : Int) - 1 == 0) && ((-1 : Int) == 1) && (items.size == items.size)) = true then _ else _) _ _ s
  rw [if_neg hno, pick_rev]
  first
    | exact wpAny_bind (m := Builtin.Tuple.tupleExact _) (wpAny_newObj_type (wpAny_pure ⟨_, rfl, wpAny_pure h⟩) htake)
    | exact wpAny_bind (m := Builtin.Tuple.tupleExact _) (wpAny_newObj_type (wpAny_bind (wpAny_pure (wpAny_pure ⟨_, rfl, wpAny_pure h⟩))) htake)
    | exact wpAny_bind (wpAny_bind (m := Builtin.Tuple.tupleExact _) (wpAny_newObj_type (wpAny_pure (wpAny_pure ⟨_, rfl, wpAny_pure h⟩)) htake))
    | exact wpAny_bind (wpAny_bind (m := Builtin.Tuple.tupleExact _) (wpAny_newObj_type (wpAny_pure ⟨_, rfl, wpAny_pure h⟩) htake))
end
/-- t[::-1] of a tuple -/
def tRevT (K : PySem.W.Frag) (te : TE) : TE := fun σ H Q => te σ H fun x H1 => ∃ a xs, x = .ref a ∧ SqT K H1 a xs ∧ ∀ p, H1 p = none → Q (.ref p) (upd H1 p (.tup xs.reverse))
theorem pe_revT {X : Cx} {e : Expr} {te : TE} {k : Nat} {p1 p2 p3 pos : Pos} (he : PE X e te) : PE X (.Subscript e (.Slice none none (some (.UnaryOp .USub (.Constant (.int 1) k p1) p2)) p3) pos) (tRevT X.K te) := by
  refine ⟨fun pins s σ H Q I h => ?_⟩
  refine Subscript_ (thn (he.run pins s σ H _ I h) fun v s1 ⟨x, H1, I1, r1, q1⟩ => ?_)
  obtain ⟨a, xs, ex, hx, q⟩ := q1
  subst ex
  cases r1
  have hst : PO X (some (.UnaryOp .USub (.Constant (.int 1) k p1) p2)) (tPart (tUn (rU fun i => .int (-i)) (tC (.int 1)))) := po_some (pe_un un_neg pe_int)
  refine wpAny_Slice (thn (po_none.run pins s1 σ H1 (fun o H2 => o = none ∧ H2 = H1) I1 ⟨rfl, rfl⟩) fun vl s2 ⟨l, H2, I2, pl, el, e2⟩ => ?_)
  subst el e2
  refine thn (po_none.run pins s2 σ H2 (fun o H3 => o = none ∧ H3 = H2) I2 ⟨rfl, rfl⟩) fun vu s3 ⟨u, H3, I3, pu, eu, e3⟩ => ?_
  subst eu e3
  refine thn (hst.run pins s3 σ H3 (fun o H4 => o = some (-1) ∧ H4 = H3) I3 ⟨1, rfl, -1, rfl, rfl, rfl⟩) fun vs s4 ⟨o, H4, I4, ps, eo, e4⟩ => ?_
  subst eo e4
  have I5 : Inv X pins σ H4 { s4 with heap := s4.heap.push { cls := .type "slice", data := .fields #[vl, vu, vs] } } := I4.kept (t' := s4.toks) fun b ob q => Heap.get?_push_of_some _ q
  obtain ⟨its, r, ht, hz⟩ := I5.tuple hx
  have hlen : its.toArray.size = xs.length := by rw [List.size_toArray]; exact r.length.symm
  show wpAny (model X.prog X.w) X.A (subscriptTail e (.Slice none none (some (.UnaryOp .USub (.Constant (.int 1) k p1) p2)) p3) (.ref a) (.ref s4.heap.objs.size)) (EP X pins σ Q) X.xe { s4 with heap := s4.heap.push { cls := .type "slice", data := .fields #[vl, vu, vs] } }
  refine tail_any (ops := [.ref a, .ref s4.heap.objs.size]) ht.typeIs (PyProof.Rows.slot_tuple_getitem.lookup) ?_ (by with_unfolding_all rfl)
  refine getItem_tuple_rev ht (Heap.IsSliceOf.new _ vl vu vs) pl pu ps ?_ (by rw [hlen]; exact hz)
  refine ⟨.ref _, _, I5.laid (t' := s4.toks) (o := .tup xs.reverse) (fun b ob q => Heap.get?_push_of_some _ q) (Nat.le_refl _) ?_, rfl, q _ (I5.hok.fresh (Nat.le_refl _))⟩
  exact ⟨by rw [List.length_reverse]; exact hz, _, r.reverse, IsTup.new _ _⟩
end L2.Vf
/-! A list is empty: == [], != []; a comprehension with a test, of which it only counts whether it is empty. -/
namespace L2.Vf
open PySem PySem.Spec PyProof.Rows
open Evl (Ex Ev EvT EvL EvA)
def rEqE (K : PySem.W.Frag) : R2 := fun x y H Q => ∃ a b xs, x = .ref a ∧ y = .ref b ∧ SqL K H a xs ∧ SqL K H b [] ∧ Q (.bl xs.isEmpty) H
def rNeE (K : PySem.W.Frag) : R2 := fun x y H Q => ∃ a b xs, x = .ref a ∧ y = .ref b ∧ SqL K H a xs ∧ SqL K H b [] ∧ Q (.bl (!xs.isEmpty)) H
section
variable {X : Cx}
theorem op_eqE {K : PySem.W.Frag} (hu : X.A.units < cLine) (hK : X.K = K := by rfl) : OpR X (compareOp .Eq) (rEqE K) := by
  subst hK
  intro pins s σ H x y v u Q I rx ry h
  obtain ⟨a, b, xs, rfl, rfl, ha, hb, q⟩ := h
  cases rx
  cases ry
  obtain ⟨its, r, pl, _⟩ := I.list ha
  obtain ⟨its2, r2, pl2, _⟩ := I.list hb
  cases r2
  cases r with
  | nil => exact SeqAt.eq_listAt (e := fun _ => true) pl.isList pl2.isList rfl hu (fun j h1 _ => absurd h1 (Nat.not_lt_zero _)) ⟨.bl true, H, I, rfl, q⟩
  | cons r1 rr => exact SeqAt.eq_list_lengthsAt pl.isList pl2.isList (by simp) hu ⟨.bl false, H, I, rfl, q⟩
theorem op_neE {K : PySem.W.Frag} (hu : X.A.units < cLine) (hK : X.K = K := by rfl) : OpR X (compareOp .NotEq) (rNeE K) := by
  subst hK
  intro pins s σ H x y v u Q I rx ry h
  obtain ⟨a, b, xs, rfl, rfl, ha, hb, q⟩ := h
  cases rx
  cases ry
  obtain ⟨its, r, pl, _⟩ := I.list ha
  obtain ⟨its2, r2, pl2, _⟩ := I.list hb
  cases r2
  cases r with
  | nil => exact SeqAt.RcNeAt.lists (e := fun _ => true) pl.isList pl2.isList rfl hu (fun j h1 _ => absurd h1 (Nat.not_lt_zero _)) _ _ _ _ ⟨.bl false, H, I, rfl, q⟩
  | cons r1 rr => exact SeqAt.RcNeAt.lists_lengths pl.isList pl2.isList (by simp) hu _ _ _ _ ⟨.bl true, H, I, rfl, q⟩
end
theorem units0' {k : Nat} {A : Around} (r : Room k A) : A.units < cLine := by have := r.un; omega
theorem lc_flt {J : It} {bs : List Bool} {G : Hp → Prop} {Z : Nat → V → Prop} (wk : Walk J bs.length G (fun i H x H' => H' = H ∧ Z i x)) {g : TG} {tt : TT} {te : TE} {vs : List Nat} {σ : St} {H : Hp} {D : Addr} {Qd : Hp → Prop} (nD : H D = none) (hn : bs.length ≤ 1000)
    (hG : ∀ H', Ex H H' → G H')
    (hs : ∀ i x H' b, bs[i]? = some b → Ex H H' → Z i x → ∀ (N : VK) (M : Hp → Prop), (∀ v H4, b = true → Ex H' H4 → N v H4) → (∀ H4, b = false → Ex H' H4 → M H4) → g x (wipe σ vs) H' fun σ2 H2 => wipe σ2 vs = wipe σ vs ∧ tt σ2 H2 fun b H3 => if b = true then te σ2 H3 N else M H3)
    (hd : ∀ acc H', Ex H H' → H' D = some (.lst acc) → acc.isEmpty = !bs.any id → Qd H') :
    ∃ W : Nat → Nat → Hp → Prop, (∃ m, W 0 m (upd H D (.lst []))) ∧ ∀ i m H, W i m H →
      (J.stop i H ∧ Qd H) ∨ (J.go i H ∧ ∃ Nx : Hp → Prop, (∀ H', Nx H' → ∃ m', m' < m ∧ W (i + 1) m' H') ∧ ∀ x H', J.yld i H x H' → g x (wipe σ vs) H' fun σ2 H2 => wipe σ2 vs = wipe σ vs ∧ tt σ2 H2 fun b H3 =>
        if b = true then te σ2 H3 fun y H4 => ∃ acc, H4 D = some (.lst acc) ∧ acc.length < sizeLine ∧ Nx (upd H4 D (.lst (acc ++ [y]))) else Nx H3) := by
  refine lc_it wk (fun i H' => ∃ acc, Ex H H' ∧ H' D = some (.lst acc) ∧ acc.isEmpty = !(bs.take i).any id ∧ acc.length ≤ i) ⟨[], Ex.new nD, upd_same, (by rw [List.take_zero]; rfl), Nat.le_refl _⟩ (fun i H' _ h => by obtain ⟨_, h, _⟩ := h; exact hG H' h) ?_ fun H' h => by
    obtain ⟨acc, h1, h2, h3, _⟩ := h
    rw [List.take_length] at h3
    exact hd acc H' h1 h2 h3
  rintro i x H1 H2 hi ⟨acc, e1, h1, h2, h3⟩ ⟨rfl, z⟩
  obtain ⟨b, hb⟩ : ∃ b, bs[i]? = some b := ⟨_, List.getElem?_eq_getElem hi⟩
  have et : bs.take (i + 1) = bs.take i ++ [b] := by rw [List.take_add_one, hb]; rfl
  refine hs i x _ b hb e1 z _ _ (fun v H4 eb e4 => ?_) (fun H4 eb e4 => ?_)
  · refine ⟨acc, e4 _ _ h1, small1000 (by omega), acc ++ [v], ?_, upd_same, ?_, by rw [List.length_append]; show acc.length + 1 ≤ i + 1; omega⟩
    · intro b o hb
      rw [upd_ne (ne_of_none hb nD)]
      exact e4 _ _ (e1 _ _ hb)
    · rw [et, List.any_append, eb]
      simp
  · refine ⟨acc, e1.trans e4, e4 _ _ h1, ?_, by omega⟩
    rw [et, List.any_append, eb, h2]
    simp
end L2.Vf
/-! The law's own words, names, rows and counts. -/
namespace L2.Vf.K01
open PySem PySem.Spec PyProof.Rows
open Evl (Ex Ev EvT EvL EvA)
abbrev s__law_is_listing : Stmt := top 31
abbrev s__law_is_row : Stmt := top 32
abbrev s__law_is_word : Stmt := top 33
abbrev s__law_is_name : Stmt := top 34
abbrev s__law_is_count : Stmt := top 35
abbrev inLD (c : Nat) : Bool := !(Builtin.Str.occurrences ("abcdefghijklmnopqrstuvwxyz0123456789" : Str) ⟨#[c]⟩ 0 ("abcdefghijklmnopqrstuvwxyz0123456789" : Str).length 1).isEmpty
theorem inLD_eq (c : Nat) : inLD c = (inL c || inD c) := by
  unfold inLD inL inD
  rw [StrLaws.found_one, StrLaws.found_one, StrLaws.found_one]
  have e : ("abcdefghijklmnopqrstuvwxyz0123456789" : Str).cps.toList = ("abcdefghijklmnopqrstuvwxyz" : Str).cps.toList ++ ("0123456789" : Str).cps.toList := by decide +kernel
  rw [e]
  by_cases h1 : c ∈ ("abcdefghijklmnopqrstuvwxyz" : Str).cps.toList
  · rw [decide_eq_true h1, decide_eq_true (List.mem_append_left _ h1)]
    rfl
  · rw [decide_eq_false h1, Bool.false_or]
    by_cases h2 : c ∈ ("0123456789" : Str).cps.toList
    · rw [decide_eq_true h2, decide_eq_true (List.mem_append_right _ h2)]
    · rw [decide_eq_false h2, decide_eq_false (fun z => (List.mem_append.mp z).elim h1 h2)]
theorem letters : ("abcdefghijklmnopqrstuvwxyz" : Str).cps.toList = List.range' 97 26 := by decide +kernel
theorem inL_iff (c : Nat) : inL c = (decide (97 ≤ c) && decide (c ≤ 122)) := by
  unfold inL
  rw [StrLaws.found_one, letters]
  refine Bool.eq_iff_iff.mpr ?_
  rw [decide_eq_true_iff, List.mem_range'_1, Bool.and_eq_true, decide_eq_true_iff, decide_eq_true_iff]
  omega
theorem lt_a (c : Nat) : (!decide ((⟨#[c]⟩ : Str).cps.toList < ("a" : Str).cps.toList)) = decide (97 ≤ c) := by
  rw [show ("a" : Str).cps.toList = [97] by decide +kernel, show (⟨#[c]⟩ : Str).cps.toList = [c] from rfl]
  by_cases h : 97 ≤ c
  · rw [decide_eq_true h, decide_eq_false (by simp [List.cons_lt_cons_iff]; omega)]
    rfl
  · rw [decide_eq_false h, decide_eq_true (by simp [List.cons_lt_cons_iff]; omega)]
    rfl
theorem z_lt (c : Nat) : (!decide (("z" : Str).cps.toList < (⟨#[c]⟩ : Str).cps.toList)) = decide (c ≤ 122) := by
  rw [show ("z" : Str).cps.toList = [122] by decide +kernel, show (⟨#[c]⟩ : Str).cps.toList = [c] from rfl]
  by_cases h : c ≤ 122
  · rw [decide_eq_true h, decide_eq_false (by simp [List.cons_lt_cons_iff]; omega)]
    rfl
  · rw [decide_eq_false h, decide_eq_true (by simp [List.cons_lt_cons_iff]; omega)]
    rfl
def lawWord (x : Str) : Bool := if decide (1 ≤ x.length) && decide (x.length ≤ 12) then (match x.cps.toList with
  | [] => false
  | c :: _ => if inL c = true then !(x.cps.toList.map fun c => !inLD c).any id else false) else false
theorem lawWord_eq (x : Str) : lawWord x = wordT x := by
  unfold lawWord wordT
  by_cases h : (decide (1 ≤ x.length) && decide (x.length ≤ 12)) = true
  · rw [if_pos h, h, Bool.true_and]
    cases e : x.cps.toList with
    | nil => rfl
    | cons c r =>
      have ea : (!((c :: r).map fun c => !inLD c).any id) = ((c :: r).map fun c => inL c || inD c).all id := by
        rw [List.any_map, List.all_map, List.not_any_eq_all_not]
        congr 1
        funext c
        show (!(!inLD c)) = (inL c || inD c)
        rw [Bool.not_not, inLD_eq]
      show (if inL c = true then !((c :: r).map fun c => !inLD c).any id else false) = (inL c && ((c :: r).map fun c => inL c || inD c).all id)
      rw [ea]
      cases hl : inL c <;> rfl
  · rw [if_neg h]
    have hf : (decide (1 ≤ x.length) && decide (x.length ≤ 12)) = false := Bool.eq_false_iff.mpr h
    rw [hf, Bool.false_and]
    rfl
def spIsListing (K : PySem.W.Frag) (w : World) : Sp := fun vs H Q _ => ∃ (v : V) (d : PyData), vs = [v] ∧ Dw K w H v d ∧ Q (.bl (lstD d || tupD d)) H
def spIsCount (K : PySem.W.Frag) (w : World) : Sp := fun vs H Q _ => ∃ (v : V) (d : PyData), vs = [v, .int 0] ∧ Dw K w H v d ∧ ∀ H', Ex H H' → Q (.bl (numD d)) H'
section
variable {P : Program} {w : World} {K : PySem.W.Frag} {mg : Str → Option Value} {base : Heap} {f : Addr} {fd : FuncData}
abbrev n__law_is_listing : List Str := ["_law_value"]
theorem sc__law_is_listing : FnScope n__law_is_listing ["_law_value"] (defScope s__law_is_listing) := ⟨rfl, rfl, rfl, by decide +kernel, rfl, by decide +kernel, by decide +kernel⟩
theorem ok_law_is_listing (F : Fun K "_law_is_listing" "_law_is_listing" s__law_is_listing f fd) (m_isinstance : mg "isinstance" = none) (m_list : mg "list" = none) (m_tuple : mg "tuple" = none) : FnOk P w K mg base CX0 1 f fd ["_law_value"] (spIsListing K w) := by
  refine F.ok sc__law_is_listing (fun vs H Q E h => ?_) (fun cdv A outer s H vs Q E hr h => ?_)
  · obtain ⟨x, d, rfl, _⟩ := h
    rfl
  obtain ⟨v, d, rfl, hd, q⟩ := h
  refine ⟨_, (pss_one (ps_ret (pe_or (pe_callB (call_isiD (K := K) (w := w)) (by rfl) m_isinstance (by decide +kernel) (pa_cons (pv 0) (pa_cons (pe_bltn (v := .ty "list") (by rfl) m_list (by decide +kernel) rfl) pa_nil))) (pe_one (pe_callB (call_isiD (K := K) (w := w)) (by rfl) m_isinstance (by decide +kernel) (pa_cons (pv 0) (pa_cons (pe_bltn (v := .ty "tuple") (by rfl) m_tuple (by decide +kernel) rfl) pa_nil))))))), ?_⟩
  refine ⟨_, rfl, v, _, d, _, rfl, hd, kit_lst d, _, rfl, ?_⟩
  cases e : lstD d with
  | true =>
    rw [e] at q
    exact iteT q
  | false =>
    rw [e] at q
    exact iteF ⟨_, rfl, v, _, d, _, rfl, hd, kit_tup d, q⟩
abbrev n__law_is_row : List Str := ["_law_value", "_law_count"]
theorem sc__law_is_row : FnScope n__law_is_row ["_law_value", "_law_count"] (defScope s__law_is_row) := ⟨rfl, rfl, rfl, by decide +kernel, rfl, by decide +kernel, by decide +kernel⟩
theorem ok_law_is_row (F : Fun K "_law_is_row" "_law_is_row" s__law_is_row f fd) (m_isinstance : mg "isinstance" = none) (m_len : mg "len" = none) (m_tuple : mg "tuple" = none) :
    FnOk P w K mg base CX0 1 f fd ["_law_value", "_law_count"] (spIsRow K w) := by
  refine F.ok sc__law_is_row (fun vs H Q E h => ?_) (fun cdv A outer s H vs Q E hr h => ?_)
  · obtain ⟨v, d, n, rfl, _⟩ := h
    rfl
  obtain ⟨v, d, n, rfl, hd, q⟩ := h
  refine ⟨_, (pss_one (ps_ret (pe_and (pe_callB (call_isiD (K := K) (w := w)) (by rfl) m_isinstance (by decide +kernel) (pa_cons (pv 0) (pa_cons (pe_bltn (v := .ty "tuple") (by rfl) m_tuple (by decide +kernel) rfl) pa_nil))) (pe_one (pe_cmpR op_eq (pe_callB (call_lenK (K := K)) (by rfl) m_len PySem.boot_len (pa_cons (pv 0) pa_nil)) (pv 1) (nomark _)))))), ?_⟩
  have qq := q H (Ex.refl H)
  refine ⟨_, rfl, v, _, d, _, rfl, hd, kit_tup d, _, rfl, ?_⟩
  cases hd with
  | @tup a xs ds hx ha =>
    refine ite2 (fun _ => ?_) (fun z => absurd rfl z)
    refine ⟨_, rfl, a, xs, rfl, .inr hx, _, rfl, rfl, ?_⟩
    have e : decide (V.int (xs.length : Int) = V.int (n : Int)) = rowD n (.tuple ds) := by
      rw [dwAll_len ha]
      exact decide_eq_decide.mpr ⟨fun z => Int.ofNat_inj.mp (V.int.inj z), fun z => by rw [z]⟩
    rw [← e] at qq
    exact qq
  | non => exact ite2 (fun z => by cases z) (fun _ => qq)
  | bl b => exact ite2 (fun z => by cases z) (fun _ => qq)
  | int i => exact ite2 (fun z => by cases z) (fun _ => qq)
  | str x => exact ite2 (fun z => by cases z) (fun _ => qq)
  | lst _ _ _ => exact ite2 (fun z => by cases z) (fun _ => qq)
  | dct _ _ => exact ite2 (fun z => by cases z) (fun _ => qq)
abbrev n__law_is_word : List Str := ["_law_value", "_law_sign"]
theorem sc__law_is_word : FnScope n__law_is_word ["_law_value"] (defScope s__law_is_word) := ⟨rfl, rfl, rfl, by decide +kernel, rfl, by decide +kernel, by decide +kernel⟩
theorem ok_law_is_word (F : Fun K "_law_is_word" "_law_is_word" s__law_is_word f fd) (m_isinstance : mg "isinstance" = none) (m_str : mg "str" = none) (m_len : mg "len" = none) : FnOk P w K mg base CX0 1 f fd ["_law_value"] (spIsWord K w) := by
  refine F.ok sc__law_is_word (fun vs H Q E h => ?_) (fun cdv A outer s H vs Q E hr h => ?_)
  · obtain ⟨x, d, rfl, _⟩ := h
    rfl
  obtain ⟨v, d, rfl, hd, hl, q⟩ := h
  refine ⟨_, (pss_cons (ps_if (PW.pt (pw_or (pt_not (pt_val (pe_callB (call_isiD (K := K) (w := w)) (by rfl) m_isinstance (by decide +kernel) (pa_cons (pv 0) (pa_cons (pe_bltn (v := .ty "str") (by rfl) m_str (by decide +kernel) rfl) pa_nil))))) (pw_or (pt_not (pt_chain op_le op_le pe_int (pe_callB call_len_str (by rfl) m_len PySem.boot_len (pa_cons (pv 0) pa_nil)) pe_int)) (pw_or1 (pt_not (pt_chain op_le_str op_le_str pe_str (pe_ix ix_str (pv 0) pe_int (fun _ _ => rfl)) pe_str))))))
  (pss_one (ps_ret pe_bl))
  pss_nil)
  (pss_one (ps_ret (pe_cmpR (op_eqE (K := K) (units0' hr)) (pe_lc (own := [("_law_sign", 1)]) (g := gName 1) (tt := _) rfl sc__law_is_word.nd (pi_str (pv 0)) (blkOk_by (N := n__law_is_word) (sc := defScope s__law_is_word) (by decide +kernel)) (fun _ _ _ _ _ => (pg_name (i := 1) sc__law_is_word.nd rfl (.inl rfl))) (fun _ _ _ _ _ => pts_one (pt_cmpR op_notIn_str (pv 1) pe_str (by rfl))) (fun _ _ _ _ _ => pe_int)) (pe_lst pa_nil) (nomark _))))), ?_⟩
  refine ⟨_, rfl, v, _, d, _, rfl, hd, kit_str d, _, rfl, ?_⟩
  by_cases ns : ∃ x, d = .str x
  · obtain ⟨x, rfl⟩ := ns
    cases hd
    refine ite2 (fun z => by cases z) (fun _ => ?_)
    have lx := hl x rfl
    have hsz : x.length ≤ sizeLine := by rw [sizeLine_eq]; omega
    have qq : ∀ H', Ex H H' → Q (.bl (lawWord x)) H' := fun H' e => by
      rw [lawWord_eq]
      exact q H' e
    have bad : (decide (1 ≤ x.length) && decide (x.length ≤ 12)) = false → ∀ H', Ex H H' → Q (.bl false) H' := fun z H' e => by
      have y := qq H' e
      unfold lawWord at y
      rw [if_neg (by rw [z]; exact Bool.false_ne_true)] at y
      exact y
    refine ⟨_, rfl, x, rfl, hsz, _, _, rfl, rfl, _, rfl, ite2 (fun c1 => ⟨_, _, rfl, rfl, _, rfl, ite2 (fun z => iteT ?_) (fun z => ?_)⟩) (fun c1 => ⟨_, rfl, iteT (iteT ?_)⟩)⟩
    · refine bad ?_ H (Ex.refl H)
      have : ¬ ((x.length : Int) ≤ 12) := fun y => by
        rw [decide_eq_true y] at z
        cases z
      rw [decide_eq_false (show ¬ x.length ≤ 12 by omega), Bool.and_false]
    · have y1 : 1 ≤ x.length := by
        have := of_decide_eq_true c1
        omega
      have y2 : x.length ≤ 12 := by
        have : (x.length : Int) ≤ 12 := Classical.byContradiction fun y => z (by rw [decide_eq_false y]; rfl)
        omega
      obtain ⟨c, r, ec⟩ : ∃ c r, x.cps.toList = c :: r := by
        cases e : x.cps.toList with
        | nil =>
          have : x.length = 0 := by
            show x.cps.size = 0
            rw [← Array.length_toList, e]
            rfl
          omega
        | cons c r => exact ⟨c, r, rfl⟩
      have ev : lawWord x = if inL c = true then !(x.cps.toList.map fun c => !inLD c).any id else false := by
        unfold lawWord
        rw [if_pos (by rw [decide_eq_true y1, decide_eq_true y2]; rfl), ec]
      rw [ev] at qq
      have notL : inL c = false → ∀ H', Ex H H' → Q (.bl false) H' := fun z H' e => by
        have y := qq H' e
        rw [if_neg (by rw [z]; exact Bool.false_ne_true)] at y
        exact y
      refine ⟨_, rfl, x, 0, c, rfl, rfl, hsz, atI_nat (j := 0) (by rw [ec]; rfl), _, _, rfl, rfl, _, rfl, ite2 (fun c3 => ⟨_, _, rfl, rfl, _, rfl, ite2 (fun z => ?_) (fun z => ?_)⟩) (fun c3 => ⟨_, rfl, iteT ?_⟩)⟩
      · refine notL ?_ H (Ex.refl H)
        rw [z_lt] at z
        have : decide (c ≤ 122) = false := by cases e : decide (c ≤ 122) with
          | true => rw [e] at z; cases z
          | false => rfl
        rw [inL_iff, this, Bool.and_false]
      · have i1 : inL c = true := by
          have a1 : decide (97 ≤ c) = true := by rw [← lt_a]; exact c3
          have a2 : decide (c ≤ 122) = true := by
            rw [z_lt] at z
            cases e : decide (c ≤ 122) with
            | true => rfl
            | false => rw [e] at z; exact absurd rfl z
          rw [inL_iff, a1, a2]
          rfl
        rw [if_pos i1] at qq
        dsimp only [tNext]
        refine ⟨_, rfl, x, rfl, fun D nD => ?_⟩
        have lb : (x.cps.toList.map fun c => !inLD c).length = x.cps.size := by rw [List.length_map, Array.length_toList]
        have wk := walk_str (z := x)
        rw [← lb] at wk
        refine lc_flt (bs := x.cps.toList.map fun c => !inLD c) wk nD (by rw [lb]; show x.length ≤ 1000; omega) (fun _ _ => trivial) ?_ ?_
        · rintro i v' H2 b hb e2 ⟨c', hc', rfl⟩ N M kN kM
          rw [List.getElem?_map] at hb
          have hc2 : x.cps.toList[i]? = some c' := by rw [← hc']; simp
          rw [hc2] at hb
          obtain rfl := Option.some.inj hb
          refine ⟨rfl, _, rfl, _, _, rfl, rfl, _, rfl, ite2 (fun z => kN _ H2 ?_ (Ex.refl _)) (fun z => kM H2 ?_ (Ex.refl _))⟩
          · exact z
          · exact Bool.eq_false_iff.mpr z
        · intro acc H2 e2 hD he
          refine ⟨(by show 0 ≤ sizeLine; exact Nat.zero_le _), fun D2 nD2 => ⟨D, D2, acc, rfl, rfl, SqL.of (Ex.new nD2 _ _ hD), SqL.of upd_same, ?_⟩⟩
          rw [he]
          exact qq _ (e2.trans (Ex.new nD2))
      · refine notL ?_ H (Ex.refl H)
        have : decide (97 ≤ c) = false := by
          rw [← lt_a]
          exact Bool.eq_false_iff.mpr c3
        rw [inL_iff, this, Bool.false_and]
    · refine bad ?_ H (Ex.refl H)
      rw [decide_eq_false (show ¬ 1 ≤ x.length from fun y => c1 (decide_eq_true (by omega))), Bool.false_and]
  · have fs : strD d = false := by
      cases d with
      | str x => exact absurd ⟨x, rfl⟩ ns
      | _ => rfl
    rw [fs]
    refine ite2 (fun _ => ?_) (fun z => absurd rfl z)
    have qq := q H (Ex.refl H)
    have ev : wordD d = false := by
      cases d with
      | str x => exact absurd ⟨x, rfl⟩ ns
      | _ => rfl
    rw [ev] at qq
    exact qq
abbrev n__law_is_name : List Str := ["_law_value"]
theorem sc__law_is_name : FnScope n__law_is_name ["_law_value"] (defScope s__law_is_name) := ⟨rfl, rfl, rfl, by decide +kernel, rfl, by decide +kernel, by decide +kernel⟩
theorem ok_law_is_name (F : Fun K "_law_is_name" "_law_is_name" s__law_is_name f fd) (h1 : Has P w K mg base 1 "_law_is_word" ["_law_value"] (spIsWord K w)) : FnOk P w K mg base CX0 2 f fd ["_law_value"] (spIsName K w) := by
  obtain ⟨f1, fd1, G__law_is_word, m__law_is_word, k__law_is_word, b__law_is_word⟩ := h1
  refine F.ok sc__law_is_name (fun vs H Q E h => ?_) (fun cdv A outer s H vs Q E hr h => ?_)
  · obtain ⟨v, d, rfl, _⟩ := h
    rfl
  obtain ⟨v, d, rfl, hd, hl, q⟩ := h
  refine ⟨_, (pss_one (ps_ret (pe_and (pe_call G__law_is_word (hr.mono (by omega)) (by rfl) m__law_is_word k__law_is_word b__law_is_word .nil pass0 (pa_cons (pv 0) pa_nil)) (pe_one (pe_cmpR (op_notIn_seqK (K := K)) (pv 0) (pe_lst (pa_cons pe_str (pa_cons pe_str (pa_cons pe_str (pa_cons pe_str (pa_cons pe_str pa_nil)))))) (by rfl)))))), ?_⟩
  refine ⟨_, rfl, v, d, rfl, hd, hl, fun H1 e1 => ⟨_, rfl, ite2 (fun z => ?_) (fun z => ?_)⟩⟩
  · obtain ⟨x, rfl, hw⟩ := wordD_str z
    cases hd
    refine ⟨_, rfl, (by show (5 : Nat) ≤ sizeLine; decide), fun l nl => ⟨l, _, rfl, .inl (SqL.of upd_same), rfl, rfl, ?_⟩⟩
    have qq := q _ (e1.trans (Ex.new (o := HO.lst (kept.map V.str)) nl))
    have e : nameD (.str x) = (wordT x && !inV (.str x) (kept.map V.str)) := rfl
    rw [e, hw, Bool.true_and] at qq
    exact qq
  · have e : nameD d = false := by
      refine Bool.eq_false_iff.mpr fun y => z ?_
      obtain ⟨x, rfl, hw⟩ := nameD_word y
      exact hw
    have qq := q H1 e1
    rw [e] at qq
    exact qq
abbrev n__law_is_count : List Str := ["_law_value", "_law_least"]
theorem sc__law_is_count : FnScope n__law_is_count ["_law_value", "_law_least"] (defScope s__law_is_count) := ⟨rfl, rfl, rfl, by decide +kernel, rfl, by decide +kernel, by decide +kernel⟩
theorem ok_law_is_count (F : Fun K "_law_is_count" "_law_is_count" s__law_is_count f fd) (m_isinstance : mg "isinstance" = none) (m_int : mg "int" = none) (m_bool : mg "bool" = none) : FnOk P w K mg base CX0 1 f fd ["_law_value", "_law_least"] (spIsCount K w) := by
  refine F.ok sc__law_is_count (fun vs H Q E h => ?_) (fun cdv A outer s H vs Q E hr h => ?_)
  · obtain ⟨x, d, rfl, _⟩ := h
    rfl
  obtain ⟨v, d, rfl, hd, q⟩ := h
  refine ⟨_, (pss_one (ps_ret (pe_and (pe_callB (call_isiD (K := K) (w := w)) (by rfl) m_isinstance (by decide +kernel) (pa_cons (pv 0) (pa_cons (pe_bltn (v := .ty "int") (by rfl) m_int (by decide +kernel) rfl) pa_nil))) (pe_and (pe_not (pe_callB (call_isiD (K := K) (w := w)) (by rfl) m_isinstance (by decide +kernel) (pa_cons (pv 0) (pa_cons (pe_bltn (v := .ty "bool") (by rfl) m_bool (by decide +kernel) rfl) pa_nil)))) (pe_one (pe_cmpR op_ge (pv 0) (pv 1) (nomark _))))))), ?_⟩
  have qq := q H (Ex.refl H)
  refine ⟨_, rfl, v, _, d, _, rfl, hd, kit_int d, _, rfl, ?_⟩
  cases hd with
  | int i =>
    refine ite2 (fun _ => ?_) (fun z => absurd rfl z)
    refine ⟨_, rfl, _, _, .int i, _, rfl, .int i, kit_bool (.int i), _, rfl, _, rfl, ite2 (fun _ => ?_) (fun z => absurd rfl z)⟩
    exact ⟨_, rfl, _, rfl, _, _, rfl, rfl, qq⟩
  | bl b =>
    refine ite2 (fun _ => ?_) (fun z => absurd rfl z)
    exact ⟨_, rfl, _, _, .bool b, _, rfl, .bl b, kit_bool (.bool b), _, rfl, _, rfl, ite2 (fun z => by cases z) (fun _ => qq)⟩
  | non => exact ite2 (fun z => by cases z) (fun _ => qq)
  | str x => exact ite2 (fun z => by cases z) (fun _ => qq)
  | lst _ _ _ => exact ite2 (fun z => by cases z) (fun _ => qq)
  | tup _ _ => exact ite2 (fun z => by cases z) (fun _ => qq)
  | dct _ _ => exact ite2 (fun z => by cases z) (fun _ => qq)
end
end L2.Vf.K01
/-! tuple * 0, tuple * 1. -/
namespace L2.Vf
open PySem PySem.Spec PyProof.Rows
theorem tuple_mul1 (l : Addr) (items : Array Value) (n : Nat) (dd : Option Addr) (sl : Array (Option Value)) (u : Tok) :
    Meets (Builtin.«tuple.__mul__» ⟨[.ref l, .int 1 u], []⟩) (fun _ R s => s.heap.get? l = some { cls := .type "tuple", dict := dd, data := .seq items n, slots := sl } ∧
      R (.ok (.ret (Value.ref l))) { s with heap := s.heap, toks := s.toks }) :=
  .of_wp fun prog w A R s h => by
    obtain ⟨hp, g, d, tk, os⟩ := s
    obtain ⟨hl, h⟩ := h
    have f1 := AutoSeq1.idx_int
    have c1 : (items.isEmpty || (1 : Int) == 1) = true := by simp
    wp_walk using wpAny_loadPart' hl
    repeat (first
      | (refine wpAny_ite_false (decide_eq_false (by decide)) ?_; wp_walk using wpAny_loadPart' hl)
      | (refine wpAny_ite_true (decide_eq_true c1) ?_; wp_walk using wpAny_loadPart' hl))
    exact ⟨_, rfl, h⟩
theorem tuple_mul0 (l : Addr) (items : Array Value) (n : Nat) (dd : Option Addr) (sl : Array (Option Value)) (u : Tok) (hi : items.isEmpty = false) :
    Meets (Builtin.«tuple.__mul__» ⟨[.ref l, .int 0 u], []⟩) (fun _ R s => s.heap.get? l = some { cls := .type "tuple", dict := dd, data := .seq items n, slots := sl } ∧
      R (.ok (.ret (Value.ref s.heap.objs.size))) { s with heap := s.heap.push { cls := Value.type "tuple", data := Data.seq #[] }, toks := s.toks }) :=
  .of_wp fun prog w A R s h => by
    obtain ⟨hp, g, d, tk, os⟩ := s
    obtain ⟨hl, h⟩ := h
    have f1 := AutoSeq1.idx_int
    have c1 : (items.isEmpty || (0 : Int) == 1) = false := by rw [hi]; rfl
    have c2 : (decide ((0 : Int) ≤ 0) || items.isEmpty) = true := by simp
    wp_walk using wpAny_loadPart' hl
    repeat (first
      | (refine wpAny_ite_false (decide_eq_false (by decide)) ?_; wp_walk using wpAny_loadPart' hl)
      | (refine wpAny_ite_false (decide_eq_false (by rw [c1]; exact Bool.false_ne_true)) ?_; wp_walk using wpAny_loadPart' hl)
      | (refine wpAny_ite_true (decide_eq_true c2) ?_; wp_walk using wpAny_loadPart' hl))
    exact ⟨_, rfl, h⟩
def rMulT (K : PySem.W.Frag) : R2 := fun x y H Q => ∃ l k xs, x = .ref l ∧ y = .int k ∧ SqT K H l xs ∧ xs ≠ [] ∧ 0 ≤ k ∧ k ≤ 1000 ∧ xs.length ≤ 1000 ∧
  (k = 0 → ∀ p, H p = none → Q (.ref p) (upd H p (.tup []))) ∧ (k = 1 → Q (.ref l) H) ∧ (2 ≤ k → ∀ p, H p = none → Q (.ref p) (upd H p (.tup (List.replicate k.toNat xs).flatten)))
section
variable {X : Cx}
theorem op_mulTK {K : PySem.W.Frag} (hK : X.K = K := by rfl) : OpR X (binaryOp .Mult) (rMulT K) := by
  subst hK
  intro pins s σ H x y v u Q I rx ry h
  obtain ⟨l, k, xs, rfl, rfl, hT, nx, h0, h1, hz, q0, q1, q2⟩ := h
  by_cases k2 : 2 ≤ k
  · exact op_repT pins s σ H _ _ v u Q I rx ry ⟨l, k, xs, rfl, rfl, hT, nx, k2, h1, hz, q2 k2⟩
  cases rx
  obtain ⟨t, rfl⟩ := ry
  obtain ⟨ws, r, ⟨⟨cls, dd, data, sl⟩, ob, hc, n, hd⟩, hs⟩ := I.tuple hT
  simp only at hc hd
  subst hc hd
  have lw : ws.length = xs.length := r.length.symm
  have nw : ws ≠ [] := fun e => nx (by
    rw [e] at lw
    exact List.eq_nil_of_length_eq_zero lw.symm)
  have hi : ws.toArray.isEmpty = false := by
    cases ws with
    | nil => exact absurd rfl nw
    | cons a b => rfl
  obtain rfl | rfl : k = 0 ∨ k = 1 := by omega
  · refine wpAny_binaryOp_repeat_ref (T := "tuple") (U := "int") (by decide) ⟨_, ob, rfl⟩ (fun s' => typeIs_int s' 0 t) noFill_tuple_mul F.fills_int_mul F.slot_int_rmul repeat_tuple F.slot_int_index.lookup
      (call_meets F.slot_int_rmul (typeIs_int s 0 t) F.entry_int_rmul (F.args_int_rmul_2 _ _) (int_rmul_tuple 0 t l ws.toArray n dd sl)
        ⟨ob, rfl, ⟨_, ob, rfl⟩, call_meets F.slot_tuple_mul ⟨_, ob, rfl⟩ F.entry_tuple_mul (F.args_tuple_mul_2 _ _) (tuple_mul0 l ws.toArray n dd sl t hi) ⟨ob, ?_⟩⟩)
    refine ⟨.ref s.heap.objs.size, _, I.laid (t' := s.toks) (o := .tup []) (fun b ob q => Heap.get?_push_of_some _ q) (Nat.le_refl _) ?_, rfl, q0 rfl _ (I.hok.fresh (Nat.le_refl _))⟩
    exact ⟨Nat.zero_le _, [], .nil, IsTup.new _ _⟩
  · refine wpAny_binaryOp_repeat_ref (T := "tuple") (U := "int") (by decide) ⟨_, ob, rfl⟩ (fun s' => typeIs_int s' 1 t) noFill_tuple_mul F.fills_int_mul F.slot_int_rmul repeat_tuple F.slot_int_index.lookup
      (call_meets F.slot_int_rmul (typeIs_int s 1 t) F.entry_int_rmul (F.args_int_rmul_2 _ _) (int_rmul_tuple 1 t l ws.toArray n dd sl)
        ⟨ob, rfl, ⟨_, ob, rfl⟩, call_meets F.slot_tuple_mul ⟨_, ob, rfl⟩ F.entry_tuple_mul (F.args_tuple_mul_2 _ _) (tuple_mul1 l ws.toArray n dd sl t) ⟨ob, ?_⟩⟩)
    exact ⟨.ref l, H, I, rfl, q1 rfl⟩
end
end L2.Vf
/-! xs + ys, with the word that the new list is not the module table. -/
namespace L2.Vf
open PySem PySem.Spec PyProof.Rows
def rCatN : R2 := fun x y H Q => ∃ l b xs zs, x = .ref l ∧ y = .ref b ∧ H l = some (.lst xs) ∧ H b = some (.lst zs) ∧ xs.length + zs.length ≤ sizeLine ∧ ∀ p, H p = none → p ≠ sysModules → Q (.ref p) (upd H p (.lst (xs ++ zs)))
section
variable {X : Cx}
theorem op_catN : OpR X (binaryOp .Add) rCatN := by
  intro pins s σ H x y v u Q I rx ry h
  obtain ⟨l, b, xs, zs, rfl, rfl, hH, hB, hz, q⟩ := h
  cases rx
  cases ry
  obtain ⟨z, vs1, n, r, la1, o1⟩ := I.lstM hH
  obtain ⟨z2, vs2, n2, r2, la2, o2⟩ := I.lstM hB
  refine PySem.P.add_list o1 o2 ?_ (by rw [List.size_toArray, List.size_toArray]; omega)
  have ej : vs1.toArray ++ vs2.toArray = (vs1 ++ vs2).toArray := by simp
  rw [ej]
  exact ⟨.ref _, _, I.lnew (t' := s.toks) (r.append r2) (by rw [List.length_append]; omega), rfl, q _ I.fresh (Nat.ne_of_gt I.big)⟩
end
end L2.Vf
/-! xs[lo:hi] and xs[::-1] of a list, with the word that the new list is not the module table. -/
namespace L2.Vf
open PySem PySem.Spec PyProof.Rows
section
variable {X : Cx} {K : PySem.W.Frag}
def rSlN (K : PySem.W.Frag) : V → Option Int → Option Int → Hp → VK → Prop := fun x lo hi H Q => ∃ a xs, x = .ref a ∧ SqL K H a xs ∧ ∀ p, H p = none → p ≠ sysModules → Q (.ref p) (upd H p (.lst (cutV xs lo hi)))
theorem sl_listN (hK : X.K = K := by rfl) : SlR X (rSlN K) := by
  subst hK
  intro pins s σ H x v vl vu lo hi sl Q I rx hs pl pu h
  obtain ⟨a, xs, rfl, hx, q⟩ := h
  cases rx
  obtain ⟨its, r, ht, hz⟩ := I.list hx
  have hlen := r.length
  refine ⟨"list", _, slot_list_getitem.lookup, ht.isList.typeIs, ?_⟩
  refine wpAny_getItem_list_slice ht.isList hs pl pu .none (by simp) ?_ (by rw [List.size_toArray] <;> omega)
  rw [slicePick_cut, ← hlen]
  refine ⟨.ref s.heap.objs.size, _, I.laid (t' := s.toks) (o := .lst (cutV xs lo hi)) (fun b ob q => Heap.get?_push_of_some _ q) (Nat.le_refl _) ?_, rfl, q _ (I.hok.fresh (Nat.le_refl _)) (Nat.ne_of_gt I.big)⟩
  exact ⟨Nat.le_trans (cutV_length xs lo hi) hz, _, 0, (r.drop (HT.sIx xs.length 0 lo)).take (HT.sIx xs.length xs.length hi - HT.sIx xs.length 0 lo), Heap.get?_push_size _ rfl⟩
def tRevLN (K : PySem.W.Frag) (te : TE) : TE := fun σ H Q => te σ H fun x H1 => ∃ a xs, x = .ref a ∧ SqL K H1 a xs ∧ ∀ p, H1 p = none → p ≠ sysModules → Q (.ref p) (upd H1 p (.lst xs.reverse))
theorem pe_revLN {e : Expr} {te : TE} {k : Nat} {p1 p2 p3 pos : Pos} (he : PE X e te) (hK : X.K = K := by rfl) : PE X (.Subscript e (.Slice none none (some (.UnaryOp .USub (.Constant (.int 1) k p1) p2)) p3) pos) (tRevLN K te) := by
  subst hK
  refine ⟨fun pins s σ H Q I h => ?_⟩
  refine Subscript_ (thn (he.run pins s σ H _ I h) fun v s1 ⟨x, H1, I1, r1, q1⟩ => ?_)
  obtain ⟨a, xs, ex, hx, q⟩ := q1
  subst ex
  cases r1
  have hst : PO X (some (.UnaryOp .USub (.Constant (.int 1) k p1) p2)) (tPart (tUn (rU fun i => .int (-i)) (tC (.int 1)))) := po_some (pe_un un_neg pe_int)
  refine wpAny_Slice (thn (po_none.run pins s1 σ H1 (fun o H2 => o = none ∧ H2 = H1) I1 ⟨rfl, rfl⟩) fun vl s2 ⟨l, H2, I2, pl, el, e2⟩ => ?_)
  subst el e2
  refine thn (po_none.run pins s2 σ H2 (fun o H3 => o = none ∧ H3 = H2) I2 ⟨rfl, rfl⟩) fun vu s3 ⟨u, H3, I3, pu, eu, e3⟩ => ?_
  subst eu e3
  refine thn (hst.run pins s3 σ H3 (fun o H4 => o = some (-1) ∧ H4 = H3) I3 ⟨1, rfl, -1, rfl, rfl, rfl⟩) fun vs s4 ⟨o, H4, I4, ps, eo, e4⟩ => ?_
  subst eo e4
  have I5 : Inv X pins σ H4 { s4 with heap := s4.heap.push { cls := .type "slice", data := .fields #[vl, vu, vs] } } := I4.kept (t' := s4.toks) fun b ob q => Heap.get?_push_of_some _ q
  obtain ⟨its, r, ht, hz⟩ := I5.list hx
  have hlen := r.length
  show wpAny (model X.prog X.w) X.A (subscriptTail e (.Slice none none (some (.UnaryOp .USub (.Constant (.int 1) k p1) p2)) p3) (.ref a) (.ref s4.heap.objs.size)) (EP X pins σ Q) X.xe { s4 with heap := s4.heap.push { cls := .type "slice", data := .fields #[vl, vu, vs] } }
  refine tail_any (ops := [.ref a, .ref s4.heap.objs.size]) ht.isList.typeIs (PySem.slot_list_getitem.lookup) ?_ (by with_unfolding_all rfl)
  refine wpAny_getItem_list_slice ht.isList (Heap.IsSliceOf.new _ vl vu vs) pl pu ps (by decide) ?_ (by rw [List.size_toArray]; omega)
  rw [PySem.W.krv_pick]
  refine ⟨.ref _, _, I5.laid (t' := s4.toks) (o := .lst xs.reverse) (fun b ob q => Heap.get?_push_of_some _ q) (Nat.le_refl _) ?_, rfl, q _ (I5.hok.fresh (Nat.le_refl _)) (Nat.ne_of_gt I5.big)⟩
  exact ⟨by rw [List.length_reverse]; exact hz, _, 0, r.reverse, Heap.get?_push_size _ rfl⟩
end
end L2.Vf
/-! list(x) of a list or a tuple, with the word that the new list is not the module table; a thing is walked whether it is locked or frozen. -/
namespace L2.Vf
open PySem PySem.Spec PyProof.Rows
def rListN (K : PySem.W.Frag) : List V → Hp → VK → Prop := fun xs H Q => ∃ p ys, xs = [.ref p] ∧ (SqL K H p ys ∨ SqT K H p ys) ∧ ∀ l, H l = none → l ≠ sysModules → Q (.ref l) (upd H l (.lst ys))
/-- the statement runs while the thing at d is frozen -/
def tLockF (t : TS) : TS := fun D σ H => ∃ (d : Addr) (od : Obj) (u : HO), H d = some (.frz od u) ∧ t ⟨fun σ' H' => H' d = some (.frz od u) ∧ D.nx σ' H', fun v H' => H' d = some (.frz od u) ∧ D.rt v H', fun σ' H' => H' d = some (.frz od u) ∧ D.bk σ' H', fun σ' H' => H' d = some (.frz od u) ∧ D.ct σ' H'⟩ σ H
def tLockA (t : TS) : TS := fun D σ H => tLock t D σ H ∨ tLockF t D σ H
section
variable {X : Cx}
theorem call_list_ofN {K : PySem.W.Frag} (hK : X.K = K := by rfl) : CallR X (.type "list") (rListN K) := by
  subst hK
  intro pins s σ H xs us Q I r h
  obtain ⟨p, ys, rfl, hq, q⟩ := h
  obtain ⟨u, rfl, rx⟩ := vals1 r
  cases rx
  have fin : ∀ (its : List Value), Vals ys its → ys.length ≤ sizeLine → ∀ (h' : Heap) (c' : Nat), (∀ b o', s.heap.get? b = some o' → h'.get? b = some o') →
      h'.get? s.heap.objs.size = some { cls := .type "list", dict := none, data := .seq its.toArray c', slots := #[] } → EP X pins σ Q (.ref s.heap.objs.size) { s with heap := h' } := fun its r' hz h' c' kp e =>
    ⟨.ref s.heap.objs.size, _, I.laid (t' := s.toks) kp (Nat.le_refl _) (show ObjOk X.prog X.w _ h' _ (.lst ys) from ⟨hz, its, c', r', e⟩), rfl, q _ (I.hok.fresh (Nat.le_refl _)) (Nat.ne_of_gt I.big)⟩
  rcases hq with hq | hq
  · obtain ⟨its, r', pl, hz⟩ := I.list hq
    have hlen := r'.length
    obtain ⟨o, ho, hc, n, hd⟩ := pl.isList
    exact call_list_seq p (.inl rfl) ho hc hd (fun h' c' kp e => fin its r' hz h' c' kp e) (by simp only [List.size_toArray] <;> omega)
  · obtain ⟨its, r', pl, hz⟩ := I.tuple hq
    have hlen := r'.length
    obtain ⟨o, ho, hc, n, hd⟩ := pl
    exact call_list_seq p (.inr rfl) ho hc hd (fun h' c' kp e => fin its r' hz h' c' kp e) (by simp only [List.size_toArray] <;> omega)
theorem ps_lockA {st : Stmt} {t : TS} (h : PS X st t) : PS X st (tLockA t) := by
  refine ⟨fun pins s σ H D I hw => ?_⟩
  rcases hw with hw | ⟨d, od, u, hd, hw⟩
  · exact (ps_lock h).run pins s σ H D I hw
  refine thn (h.run pins s σ _ _ I hw) fun f s1 q => ?_
  cases f with
  | next => obtain ⟨σ', H', I2, e, q⟩ := q; exact ⟨σ', _, I2, q⟩
  | brk => obtain ⟨σ', H', I2, e, q⟩ := q; exact ⟨σ', _, I2, q⟩
  | cont => obtain ⟨σ', H', I2, e, q⟩ := q; exact ⟨σ', _, I2, q⟩
  | ret v => obtain ⟨x, σ', H', I2, r, e, q⟩ := q; exact ⟨x, σ', _, I2, r, q⟩
end
/-- one reading of both -/
theorem lockA {t : TS} {D : Ends} {σ : St} {H : Hp} {d : Addr} {u : HO} (mu : Mut (some u)) (h : H d = some u ∨ ∃ od, H d = some (.frz od u))
    (k : ∀ (od : Obj) (HL : Hp) (ρ : Hp → Hp), HL d = some (.frz od u) → ((H d = some u ∧ HL = upd H d (.frz od u) ∧ ρ = fun H' => upd H' d u) ∨ (H d = some (.frz od u) ∧ HL = H ∧ ρ = fun H' => H')) →
      t ⟨fun σ' H' => H' d = some (.frz od u) ∧ D.nx σ' (ρ H'), fun v H' => H' d = some (.frz od u) ∧ D.rt v (ρ H'), fun σ' H' => H' d = some (.frz od u) ∧ D.bk σ' (ρ H'), fun σ' H' => H' d = some (.frz od u) ∧ D.ct σ' (ρ H')⟩ σ HL) : tLockA t D σ H := by
  rcases h with h | ⟨od, h⟩
  · exact .inl ⟨d, u, h, mu, fun od => k od _ _ upd_same (.inl ⟨h, rfl, rfl⟩)⟩
  · exact .inr ⟨d, od, u, h, k od _ _ h (.inr ⟨h, rfl, rfl⟩)⟩
end L2.Vf
/-! Data with a part otherwise. -/
namespace L2.Vf.K01
open PySem PySem.Spec PyProof.Rows
open Evl (Ex Ev EvT EvL EvA)
theorem ix_seqK {X : Cx} {K : PySem.W.Frag} (hK : X.K = K := by rfl) : IxR X (rIx K) := by
  subst hK
  exact ix_seq
mutual
/-- data whose lists are no module table and whose tuples are told -/
inductive Df (K : PySem.W.Frag) (w : World) (H : Hp) : V → PyData → Prop
  | non : Df K w H .non .none
  | bl (b : Bool) : Df K w H (.bl b) (.bool b)
  | int (i : Int) : Df K w H (.int i) (.int i)
  | str (x : Str) : Df K w H (.str x) (.str x)
  | lst {a : Addr} {xs : List V} {ds : List PyData} : a ≠ sysModules → H a = some (.lst xs) → DfAll K w H xs ds → Df K w H (.ref a) (.list ds)
  | tup {a : Addr} {xs : List V} {ds : List PyData} : TupF H a xs → DfAll K w H xs ds → Df K w H (.ref a) (.tuple ds)
  | dct {d : Addr} : Mx K H w d [] → Df K w H (.ref d) (.dict [])
inductive DfAll (K : PySem.W.Frag) (w : World) (H : Hp) : List V → List PyData → Prop
  | nil : DfAll K w H [] []
  | cons {v : V} {vs : List V} {d : PyData} {ds : List PyData} : Df K w H v d → DfAll K w H vs ds → DfAll K w H (v :: vs) (d :: ds)
end
section
variable {K : PySem.W.Frag} {w : World} {H H' : Hp}
mutual
theorem Df.dr : ∀ {d : PyData} {v : V}, Df K w H v d → Dr K w H v d
  | .none, _, h => by cases h; exact .non
  | .bool b, _, h => by cases h; exact .bl b
  | .int i, _, h => by cases h; exact .int i
  | .str x, _, h => by cases h; exact .str x
  | .list ds, _, h => by
    cases h with
    | lst h0 h1 h2 => exact .lst h0 (SqL.of h1) (DfAll.dr h2)
  | .tuple ds, _, h => by
    cases h with
    | tup h1 h2 => exact .tup h1.sq (DfAll.dr h2)
  | .dict _, _, h => by
    cases h with
    | dct h => exact .dct h .nil
theorem DfAll.dr : ∀ {ds : List PyData} {vs : List V}, DfAll K w H vs ds → DrAll K w H vs ds
  | [], _, h => by cases h; exact .nil
  | d :: ds, _, h => by
    cases h with
    | cons h1 h2 => exact .cons (Df.dr h1) (DfAll.dr h2)
end
mutual
theorem Df.ex (e : Ex H H') : ∀ {d : PyData} {v : V}, Df K w H v d → Df K w H' v d
  | .none, _, h => by cases h; exact .non
  | .bool b, _, h => by cases h; exact .bl b
  | .int i, _, h => by cases h; exact .int i
  | .str x, _, h => by cases h; exact .str x
  | .list ds, _, h => by
    cases h with
    | lst h0 h1 h2 => exact .lst h0 (e _ _ h1) (DfAll.ex e h2)
  | .tuple ds, _, h => by
    cases h with
    | tup h1 h2 => exact .tup (h1.ex e) (DfAll.ex e h2)
  | .dict _, _, h => by
    cases h with
    | dct h => exact .dct (h.mono e)
theorem DfAll.ex (e : Ex H H') : ∀ {ds : List PyData} {vs : List V}, DfAll K w H vs ds → DfAll K w H' vs ds
  | [], _, h => by cases h; exact .nil
  | d :: ds, _, h => by
    cases h with
    | cons h1 h2 => exact .cons (Df.ex e h1) (DfAll.ex e h2)
end
theorem DfAll.len : ∀ {vs : List V} {ds : List PyData}, DfAll K w H vs ds → vs.length = ds.length
  | _, _, .nil => rfl
  | _, _, .cons _ h => by rw [List.length_cons, List.length_cons, DfAll.len h]
theorem DfAll.at_ : ∀ {vs : List V} {ds : List PyData} {i : Nat} {v : V}, DfAll K w H vs ds → vs[i]? = some v → ∃ d, ds[i]? = some d ∧ Df K w H v d
  | _, _, i, v, .nil, h => by simp at h
  | _, _, 0, v, .cons h _, e => by
    obtain rfl := Option.some.inj e
    exact ⟨_, rfl, h⟩
  | _, _, i + 1, v, .cons _ h, e => by
    obtain ⟨d, h1, h2⟩ := DfAll.at_ (i := i) h (by simpa using e)
    exact ⟨d, by simpa using h1, h2⟩
theorem DfAll.app : ∀ {vs ws : List V} {ds es : List PyData}, DfAll K w H vs ds → DfAll K w H ws es → DfAll K w H (vs ++ ws) (ds ++ es)
  | _, _, _, _, .nil, h => h
  | _, _, _, _, .cons h t, g => .cons h (DfAll.app t g)
theorem DfAll.drop : ∀ {vs : List V} {ds : List PyData} (n : Nat), DfAll K w H vs ds → DfAll K w H (vs.drop n) (ds.drop n)
  | _, _, 0, h => h
  | _, _, n + 1, .nil => .nil
  | _, _, n + 1, .cons _ h => DfAll.drop n h
theorem DfAll.take : ∀ {vs : List V} {ds : List PyData} (n : Nat), DfAll K w H vs ds → DfAll K w H (vs.take n) (ds.take n)
  | _, _, 0, h => .nil
  | _, _, n + 1, .nil => .nil
  | _, _, n + 1, .cons g h => .cons g (DfAll.take n h)
end
theorem cnt_app : ∀ (ds es : List PyData), cntAll (ds ++ es) = cntAll ds + cntAll es
  | [], es => by show cntAll es = 0 + cntAll es; omega
  | d :: ds, es => by
    show cnt d + cntAll (ds ++ es) = cnt d + cntAll ds + cntAll es
    rw [cnt_app ds es]
    omega
theorem sm_app : ∀ (ds es : List PyData), smAll (ds ++ es) = (smAll ds && smAll es)
  | [], es => rfl
  | d :: ds, es => by
    show (smD d && smAll (ds ++ es)) = (smD d && smAll ds && smAll es)
    rw [sm_app ds es, Bool.and_assoc]
theorem cnt_split (ds : List PyData) (n : Nat) : cntAll ds = cntAll (ds.take n) + cntAll (ds.drop n) := by
  rw [← cnt_app, List.take_append_drop]
theorem sm_split {ds : List PyData} (n : Nat) (h : smAll ds = true) : smAll (ds.take n) = true ∧ smAll (ds.drop n) = true := by
  rw [← List.take_append_drop n ds, sm_app, Bool.and_eq_true] at h
  exact h
/-- a run of a list of data -/
theorem cut_df {K : PySem.W.Frag} {w : World} {H : Hp} {vs : List V} {ds : List PyData} (h : DfAll K w H vs ds) (sm : smAll ds = true) (lo hi : Option Int) : ∃ es, DfAll K w H (cutV vs lo hi) es ∧ smAll es = true ∧ cntAll es ≤ cntAll ds := by
  refine ⟨(ds.drop (HT.sIx vs.length 0 lo)).take (HT.sIx vs.length vs.length hi - HT.sIx vs.length 0 lo), (h.drop _).take _, (sm_split _ (sm_split _ sm).2).1, ?_⟩
  have h1 := cnt_split ds (HT.sIx vs.length 0 lo)
  have h2 := cnt_split (ds.drop (HT.sIx vs.length 0 lo)) (HT.sIx vs.length vs.length hi - HT.sIx vs.length 0 lo)
  omega
/-! ### new data -/
section
variable {K : PySem.W.Frag} {w : World} {H : Hp} {p c a b : Addr} {xs ys : List V} {ds es : List PyData} {Q : VK}
theorem newT (S : Kn [p, c] H) {r : Addr} {its : List Value} {zs : List V} {fs : List PyData} (n : H r = none) (hv : Vals zs its) (d : DfAll K w (hide [p, c] H) zs fs) :
    Df K w (hide [p, c] (upd H r (.frz (tupO its) (.tup zs)))) (.ref r) (.tuple fs) := .tup ⟨its, hide_new S n, hv⟩ (DfAll.ex (But.of (S := [p, c]) (Ex.new n)) d)
theorem newL (S : Kn [p, c] H) {r : Addr} {zs : List V} {fs : List PyData} (n : H r = none) (m : r ≠ sysModules) (d : DfAll K w (hide [p, c] H) zs fs) :
    Df K w (hide [p, c] (upd H r (.lst zs))) (.ref r) (.list fs) := .lst m (hide_new S n) (DfAll.ex (But.of (S := [p, c]) (Ex.new n)) d)
theorem cut_all {lo hi : Option Int} (h : HT.sIx xs.length 0 lo = 0 ∧ HT.sIx xs.length xs.length hi = xs.length) : cutV xs lo hi = xs := by
  unfold cutV
  rw [h.1, h.2, Nat.sub_zero, List.drop_zero, List.take_length]
theorem slF_df {lo hi : Option Int} (S : Kn [p, c] H) (h : Df K w (hide [p, c] H) (.ref a) (.tuple ds)) (sm : smAll ds = true) (k : ∀ r es H', Ex H H' → Df K w (hide [p, c] H') (.ref r) (.tuple es) → smAll es = true → cntAll es ≤ cntAll ds → Q (.ref r) H') : rSlF K (.ref a) lo hi H Q := by
  cases h with
  | @tup _ xs _ ht hd =>
    refine ⟨a, xs, rfl, Evl.ex_t hide_ex ht.sq, fun _ => k a ds H (Ex.refl H) (.tup ht hd) sm (Nat.le_refl _), fun _ r its hv nr => ?_⟩
    obtain ⟨es, h1, h2, h3⟩ := cut_df hd sm lo hi
    exact k r es _ (Ex.new nr) (newT S nr hv h1) h2 h3
theorem catF_df (S : Kn [p, c] H) (h : Df K w (hide [p, c] H) (.ref a) (.tuple ds)) (g : Df K w (hide [p, c] H) (.ref b) (.tuple es)) (hz : ds.length + es.length ≤ 16777216) (k : ∀ r H', Ex H H' → Df K w (hide [p, c] H') (.ref r) (.tuple (ds ++ es)) → Q (.ref r) H') : rCatF K (.ref a) (.ref b) H Q := by
  cases h with
  | @tup _ xs _ ht hd =>
    cases g with
    | @tup _ ys _ gt gd =>
      refine ⟨a, b, xs, ys, rfl, rfl, Evl.ex_t hide_ex ht.sq, Evl.ex_t hide_ex gt.sq, by rw [sizeLine_eq, hd.len, gd.len]; exact hz, fun e => ?_, fun _ e => ?_, fun _ _ r its hv nr => ?_⟩
      · subst e
        cases hd
        exact k b H (Ex.refl H) (.tup gt gd)
      · subst e
        cases gd
        exact k a H (Ex.refl H) (by rw [List.append_nil]; exact .tup ht hd)
      · exact k r _ (Ex.new nr) (newT S nr hv (hd.app gd))
theorem slN_df {lo hi : Option Int} (S : Kn [p, c] H) (h : Df K w (hide [p, c] H) (.ref a) (.list ds)) (sm : smAll ds = true) (k : ∀ r es H', Ex H H' → Df K w (hide [p, c] H') (.ref r) (.list es) → smAll es = true → cntAll es ≤ cntAll ds → Q (.ref r) H') : rSlN K (.ref a) lo hi H Q := by
  cases h with
  | @lst _ xs _ hm hl hd =>
    refine ⟨a, xs, rfl, Evl.ex_l hide_ex (SqL.of hl), fun r nr mr => ?_⟩
    obtain ⟨es, h1, h2, h3⟩ := cut_df hd sm lo hi
    exact k r es _ (Ex.new nr) (newL S nr mr h1) h2 h3
theorem catN_df (S : Kn [p, c] H) (h : Df K w (hide [p, c] H) (.ref a) (.list ds)) (g : Df K w (hide [p, c] H) (.ref b) (.list es)) (hz : ds.length + es.length ≤ 16777216) (k : ∀ r H', Ex H H' → Df K w (hide [p, c] H') (.ref r) (.list (ds ++ es)) → Q (.ref r) H') : rCatN (.ref a) (.ref b) H Q := by
  cases h with
  | @lst _ xs _ hm hl hd =>
    cases g with
    | @lst _ ys _ gm gl gd =>
      exact ⟨a, b, xs, ys, rfl, rfl, hide_ex _ _ hl, hide_ex _ _ gl, by rw [sizeLine_eq, hd.len, gd.len]; exact hz, fun r nr mr => k r _ (Ex.new nr) (newL S nr mr (hd.app gd))⟩
theorem slF_df' {j : Nat} (S : Kn [p, c] H) (h : Df K w (hide [p, c] H) (.ref a) (.tuple ds)) (sm : smAll ds = true) (k : ∀ r H', Ex H H' → Df K w (hide [p, c] H') (.ref r) (.tuple (ds.take j)) → Q (.ref r) H') : rSlF K (.ref a) none (some (j : Int)) H Q := by
  cases h with
  | @tup _ xs _ ht hd =>
    have ec : cutV xs none (some (j : Int)) = xs.take j := by
      unfold cutV
      rw [HT.sIx_nat, HT.sIx_none, List.drop_zero, Nat.sub_zero]
      rcases Nat.le_total j xs.length with y | y
      · rw [Nat.min_eq_left y]
      · rw [Nat.min_eq_right y, List.take_length, List.take_of_length_le y]
    refine ⟨a, xs, rfl, Evl.ex_t hide_ex ht.sq, fun y => ?_, fun _ r its hv nr => ?_⟩
    · have e1 := cut_all y
      rw [ec] at e1
      have e2 : ds.take j = ds := List.take_of_length_le (by
        have := congrArg List.length e1
        rw [List.length_take] at this
        have := hd.len
        omega)
      exact k a H (Ex.refl H) (by rw [e2]; exact .tup ht hd)
    · rw [ec] at hv ⊢
      exact k r _ (Ex.new nr) (newT S nr hv (hd.take j))
theorem slN_df' {j : Nat} (S : Kn [p, c] H) (h : Df K w (hide [p, c] H) (.ref a) (.list ds)) (sm : smAll ds = true) (k : ∀ r H', Ex H H' → Df K w (hide [p, c] H') (.ref r) (.list (ds.take j)) → Q (.ref r) H') : rSlN K (.ref a) none (some (j : Int)) H Q := by
  cases h with
  | @lst _ xs _ hm hl hd =>
    have ec : cutV xs none (some (j : Int)) = xs.take j := by
      unfold cutV
      rw [HT.sIx_nat, HT.sIx_none, List.drop_zero, Nat.sub_zero]
      rcases Nat.le_total j xs.length with y | y
      · rw [Nat.min_eq_left y]
      · rw [Nat.min_eq_right y, List.take_length, List.take_of_length_le y]
    refine ⟨a, xs, rfl, Evl.ex_l hide_ex (SqL.of hl), fun r nr mr => ?_⟩
    rw [ec]
    exact k r _ (Ex.new nr) (newL S nr mr (hd.take j))
theorem cut_drop (xs : List V) (j : Nat) : cutV xs (some ((j : Int) + 1)) none = xs.drop (j + 1) := by
  unfold cutV
  rw [show ((j : Int) + 1) = ((j + 1 : Nat) : Int) by omega, HT.sIx_nat, HT.sIx_none]
  rcases Nat.le_total (j + 1) xs.length with y | y
  · rw [Nat.min_eq_left y, List.take_of_length_le (by rw [List.length_drop]; omega)]
  · rw [Nat.min_eq_right y, List.drop_length, List.drop_eq_nil_of_le y, List.take_nil]
theorem slF_df'' {j : Nat} (S : Kn [p, c] H) (h : Df K w (hide [p, c] H) (.ref a) (.tuple ds)) (sm : smAll ds = true) (k : ∀ r H', Ex H H' → Df K w (hide [p, c] H') (.ref r) (.tuple (ds.drop (j + 1))) → Q (.ref r) H') : rSlF K (.ref a) (some ((j : Int) + 1)) none H Q := by
  cases h with
  | @tup _ xs _ ht hd =>
    refine ⟨a, xs, rfl, Evl.ex_t hide_ex ht.sq, fun y => ?_, fun _ r its hv nr => ?_⟩
    · have e1 := cut_all y
      rw [cut_drop] at e1
      have e2 : ds.drop (j + 1) = ds := by
        have h1 := congrArg List.length e1
        rw [List.length_drop] at h1
        have h2 := hd.len
        have : ds = [] := List.length_eq_zero_iff.mp (by omega)
        rw [this]
        rfl
      exact k a H (Ex.refl H) (by rw [e2]; exact .tup ht hd)
    · rw [cut_drop] at hv ⊢
      exact k r _ (Ex.new nr) (newT S nr hv (hd.drop (j + 1)))
theorem slN_df'' {j : Nat} (S : Kn [p, c] H) (h : Df K w (hide [p, c] H) (.ref a) (.list ds)) (sm : smAll ds = true) (k : ∀ r H', Ex H H' → Df K w (hide [p, c] H') (.ref r) (.list (ds.drop (j + 1))) → Q (.ref r) H') : rSlN K (.ref a) (some ((j : Int) + 1)) none H Q := by
  cases h with
  | @lst _ xs _ hm hl hd =>
    refine ⟨a, xs, rfl, Evl.ex_l hide_ex (SqL.of hl), fun r nr mr => ?_⟩
    rw [cut_drop]
    exact k r _ (Ex.new nr) (newL S nr mr (hd.drop (j + 1)))
theorem listN_df (S : Kn [p, c] H) (h : Df K w (hide [p, c] H) (.ref a) (.tuple ds)) (k : ∀ r H', Ex H H' → Df K w (hide [p, c] H') (.ref r) (.list ds) → Q (.ref r) H') : rListN K [.ref a] H Q := by
  cases h with
  | @tup _ xs _ ht hd => exact ⟨a, xs, rfl, .inr (Evl.ex_t hide_ex ht.sq), fun r nr mr => k r _ (Ex.new nr) (newL S nr mr hd)⟩
theorem tupF_df (S : Kn [p, c] H) (h : Df K w (hide [p, c] H) (.ref a) (.list ds)) (k : ∀ r H', Ex H H' → Df K w (hide [p, c] H') (.ref r) (.tuple ds) → Q (.ref r) H') : rTupF K [.ref a] H Q := by
  cases h with
  | @lst _ xs _ hm hl hd => exact ⟨a, xs, rfl, .inl ⟨Evl.ex_l hide_ex (SqL.of hl), fun r its hv nr => k r _ (Ex.new nr) (newT S nr hv hd)⟩⟩
end
theorem exHide {S : List Addr} {H H' : Hp} (e : Ex H H') : Ex (hide S H) (hide S H') := But.of e
theorem pick4 {w0 w1 w2 w3 : V} {r : Int} {Z : V → Prop} (h0 : 0 ≤ r) (h4 : r < 4) (z0 : Z w0) (z1 : Z w1) (z2 : Z w2) (z3 : Z w3) : ∃ v, atI [w0, w1, w2, w3] r = some v ∧ Z v := by
  obtain ⟨k, rfl⟩ := Int.eq_ofNat_of_zero_le h0
  have hk : k < 4 := by omega
  match k, hk with
  | 0, _ => exact ⟨_, atI_nat (j := 0) rfl, z0⟩
  | 1, _ => exact ⟨_, atI_nat (j := 1) rfl, z1⟩
  | 2, _ => exact ⟨_, atI_nat (j := 2) rfl, z2⟩
  | 3, _ => exact ⟨_, atI_nat (j := 3) rfl, z3⟩
abbrev s__law_bent : Stmt := top 36
/-- what may stand in a place -/
def OddOk (ds : List PyData) : Prop := ∀ d ∈ ds, smD d = true ∧ cnt d ≤ 5
def spBent (K : PySem.W.Frag) (w : World) (n : Nat) : Sp := fun vs H Q _ => ∃ (p c o : Addr) (v : V) (d : PyData) (os : List V) (odds : List PyData), vs = [.ref p, v, .int (n : Int), .ref o] ∧ Src2 H p c ∧ Df K w (hide [p, c] H) v d ∧ smD d = true ∧ cnt d ≤ 500 ∧
  SqL K (hide [p, c] H) o os ∧ DfAll K w (hide [p, c] H) os odds ∧ OddOk odds ∧ 2 ≤ os.length ∧ os.length ≤ 100 ∧
  ∀ v' d' H', Src2 H' p c → But [p, c] H H' → Df K w (hide [p, c] H') v' d' → smD d' = true → cnt d' ≤ cnt d + 5 → Q v' H'
def bBase (K : PySem.W.Frag) (w : World) : TS := tSeq
        (tPar 4 5
          (tCons (tCall spPick2 [] E0 (tCons (tVar 0) (tCons (tC (V.int 6)) tNil)))
            (tCons (tCall (spOf2 K) [] E0 (tCons (tVar 0) (tCons (tVar 3) tNil))) tNil)))
        (tSeq
          (tIfS
            (tAnd (tB (tCB (rIsiD K w) (tCons (tVar 1) (tCons (tC (V.ty "tuple")) tNil))))
              (tTest (tOp (rI0 fun i j => V.bl (decide (i < j))) (tVar 4) (tC (V.int 4)))))
            (tRet
              (tOp (rIxL K)
                (tLst
                  (tCons (tSl (rSlF K) (tVar 1) (tPart (tC (V.int 1))) tNoPart)
                    (tCons (tSl (rSlF K) (tVar 1) tNoPart (tPart (tUn (rU fun i => V.int (-i)) (tC (V.int 1)))))
                      (tCons (tOp (rCatF K) (tVar 1) (tTupF (tCons (tVar 5) tNil)))
                        (tCons (tCB (rListN K) (tCons (tVar 1) tNil)) tNil)))))
                (tVar 4)))
            tNext)
          (tSeq
            (tIfS
              (tAnd (tB (tCB (rIsiD K w) (tCons (tVar 1) (tCons (tC (V.ty "list")) tNil))))
                (tTest (tOp (rI0 fun i j => V.bl (decide (i < j))) (tVar 4) (tC (V.int 4)))))
              (tRet
                (tOp (rIxL K)
                  (tLst
                    (tCons (tSl (rSlN K) (tVar 1) (tPart (tC (V.int 1))) tNoPart)
                      (tCons (tSl (rSlN K) (tVar 1) tNoPart (tPart (tUn (rU fun i => V.int (-i)) (tC (V.int 1)))))
                        (tCons (tOp rCatN (tVar 1) (tLstN (tCons (tVar 5) tNil)))
                          (tCons (tCB (rTupF K) (tCons (tVar 1) tNil)) tNil)))))
                  (tVar 4)))
              tNext)
            (tRet (tVar 5))))
def spBentLess (K : PySem.W.Frag) (w : World) (n : Nat) : Sp := fun vs H Q E => ∃ e, e < n ∧ spBent K w e vs H Q E
section
variable {P : Program} {w : World} {K : PySem.W.Frag} {mg : Str → Option Value} {base : Heap} {f : Addr} {fd : FuncData}
abbrev n__law_bent : List Str := ["_law_source_here", "_law_value", "_law_deep", "_law_odd", "_law_way", "_law_other", "_law_at", "_law_new"]
theorem sc__law_bent : FnScope n__law_bent ["_law_source_here", "_law_value", "_law_deep", "_law_odd"] (defScope s__law_bent) := ⟨rfl, rfl, rfl, by decide +kernel, rfl, by decide +kernel, by decide +kernel⟩
theorem ok_bent (F : Fun K "_law_bent" "_law_bent" s__law_bent f fd) (m__law_bent : mg "_law_bent" = some (.ref f)) (b__law_bent : Binds K fd ["_law_source_here", "_law_value", "_law_deep", "_law_odd"] []) (m_tuple : mg "tuple" = none) (m_list : mg "list" = none) (m_isinstance : mg "isinstance" = none) (m_len : mg "len" = none)
    (hp : Has P w K mg base 1 "_law_pick" ["_law_source_here", "_law_many"] spPick2) (ho : Has P w K mg base 2 "_law_of" ["_law_source_here", "_law_some_here"] (spOf2 K)) (hl : Has P w K mg base 1 "_law_is_listing" ["_law_value"] (spIsListing K w)) : ∀ d, FnOk P w K mg base CX0 (3 + d) f fd ["_law_source_here", "_law_value", "_law_deep", "_law_odd"] (spBentLess K w d) := by
  have k__law_bent := F.kp
  obtain ⟨f1, fd1, G__law_pick, m__law_pick, k__law_pick, b__law_pick⟩ := hp
  obtain ⟨f2, fd2, G__law_of, m__law_of, k__law_of, b__law_of⟩ := ho
  obtain ⟨f3, fd3, G__law_is_listing, m__law_is_listing, k__law_is_listing, b__law_is_listing⟩ := hl
  intro n
  induction n with
  | zero => exact ⟨fun vs H Q E h => by obtain ⟨e, he, _⟩ := h; omega, fun A outer s H args us vs Q E _ _ _ _ h => by obtain ⟨e, he, _⟩ := h; omega⟩
  | succ n G__law_bent =>
    refine F.ok (k := 3 + n) sc__law_bent (fun vs H Q E h => ?_) (fun cdv A outer s H vs Q E hr h => ?_)
    · obtain ⟨e, _, p, c, o, v, d, os, odds, rfl, _⟩ := h
      rfl
    obtain ⟨e, he, p, c, o, v, d, os, odds, rfl, hS, hd, sm, cn, hos, hod, ok, l2, l100, q⟩ := h
    refine ⟨_, (pss_cons (ps_if (PW.pt (pw_or (pt_not (pt_val (pe_call G__law_is_listing (hr.mono (by omega)) (by rfl) m__law_is_listing k__law_is_listing b__law_is_listing .nil pass0 (pa_cons (pv 1) pa_nil)))) (pw_or (pt_cmpR op_eq (pe_callB (call_lenK (K := K)) (by rfl) m_len PySem.boot_len (pa_cons (pv 1) pa_nil)) pe_int (nomark _)) (pw_or (pt_cmpR op_eq (pv 2) pe_int (nomark _)) (pw_or1 (pt_cmpR op_eq (pe_call G__law_pick (hr.mono (by omega)) (by rfl) m__law_pick k__law_pick b__law_pick .nil pass0 (pa_cons (pv 0) (pa_cons pe_int pa_nil))) pe_int (nomark _)))))))
  (pss_cons (ps_par (i := 4) (j := 5) (by rfl) sc__law_bent.nd rfl rfl (by decide) rfl rfl (pa_cons (pe_call G__law_pick (hr.mono (by omega)) (by rfl) m__law_pick k__law_pick b__law_pick .nil pass0 (pa_cons (pv 0) (pa_cons pe_int pa_nil))) (pa_cons (pe_call G__law_of (hr.mono (by omega)) (by rfl) m__law_of k__law_of b__law_of .nil pass0 (pa_cons (pv 0) (pa_cons (pv 3) pa_nil))) pa_nil)) (by rfl))
  (pss_cons (ps_if (PW.pt (pw_and (pt_val (pe_callB (call_isiD (K := K) (w := w)) (by rfl) m_isinstance (by decide +kernel) (pa_cons (pv 1) (pa_cons (pe_bltn (v := .ty "tuple") (by rfl) m_tuple (by decide +kernel) rfl) pa_nil)))) (pw_and1 (pt_cmpR op_lt (pv 4) pe_int (nomark _)))))
  (pss_one (ps_ret (pe_ix (ix_listK (K := K)) (pe_lst (pa_cons (pe_slice (sl_tupF (K := K)) (pv 1) (po_some pe_int) po_none) (pa_cons (pe_slice (sl_tupF (K := K)) (pv 1) po_none (po_some (pe_un un_neg pe_int))) (pa_cons (pe_op (op_catF (K := K)) (pv 1) (pe_tupF (pa_cons (pv 5) pa_nil))) (pa_cons (pe_callTy (call_list_ofN (K := K)) (by rfl) m_list (by decide +kernel) (pa_cons (pv 1) pa_nil)) pa_nil))))) (pv 4) (fun _ _ => rfl))))
  pss_nil)
  (pss_cons (ps_if (PW.pt (pw_and (pt_val (pe_callB (call_isiD (K := K) (w := w)) (by rfl) m_isinstance (by decide +kernel) (pa_cons (pv 1) (pa_cons (pe_bltn (v := .ty "list") (by rfl) m_list (by decide +kernel) rfl) pa_nil)))) (pw_and1 (pt_cmpR op_lt (pv 4) pe_int (nomark _)))))
  (pss_one (ps_ret (pe_ix (ix_listK (K := K)) (pe_lst (pa_cons (pe_slice (sl_listN (K := K)) (pv 1) (po_some pe_int) po_none) (pa_cons (pe_slice (sl_listN (K := K)) (pv 1) po_none (po_some (pe_un un_neg pe_int))) (pa_cons (pe_op op_catN (pv 1) (pe_lstN (pa_cons (pv 5) pa_nil))) (pa_cons (pe_callTy (call_tupF (K := K)) (by rfl) m_tuple (by decide +kernel) (pa_cons (pv 1) pa_nil)) pa_nil))))) (pv 4) (fun _ _ => rfl))))
  pss_nil)
  (pss_one (ps_ret (pv 5))))))
  pss_nil)
  (pss_cons (ps_set (i := 6) sc__law_bent.nd rfl (.inl rfl) (pe_call G__law_pick (hr.mono (by omega)) (by rfl) m__law_pick k__law_pick b__law_pick .nil pass0 (pa_cons (pv 0) (pa_cons (pe_callB (call_lenK (K := K)) (by rfl) m_len PySem.boot_len (pa_cons (pv 1) pa_nil)) pa_nil))))
  (pss_cons (ps_set (i := 7) sc__law_bent.nd rfl (.inl rfl) (pe_call G__law_bent (hr.mono (by omega)) (by rfl) m__law_bent k__law_bent b__law_bent .nil pass0 (pa_cons (pv 0) (pa_cons (pe_ix (ix_seqK (K := K)) (pv 1) (pv 6) (fun _ _ => rfl)) (pa_cons (pe_op op_sub (pv 2) pe_int) (pa_cons (pv 3) pa_nil))))))
  (pss_cons (ps_if (pt_val (pe_callB (call_isiD (K := K) (w := w)) (by rfl) m_isinstance (by decide +kernel) (pa_cons (pv 1) (pa_cons (pe_bltn (v := .ty "list") (by rfl) m_list (by decide +kernel) rfl) pa_nil))))
  (pss_one (ps_ret (pe_op op_catN (pe_op op_catN (pe_slice (sl_listN (K := K)) (pv 1) po_none (po_some (pv 6))) (pe_lstN (pa_cons (pv 7) pa_nil))) (pe_slice (sl_listN (K := K)) (pv 1) (po_some (pe_op op_add (pv 6) pe_int)) po_none))))
  pss_nil)
  (pss_one (ps_ret (pe_op (op_catF (K := K)) (pe_op (op_catF (K := K)) (pe_slice (sl_tupF (K := K)) (pv 1) po_none (po_some (pv 6))) (pe_tupF (pa_cons (pv 7) pa_nil))) (pe_slice (sl_tupF (K := K)) (pv 1) (po_some (pe_op op_add (pv 6) pe_int)) po_none)))))))), ?_⟩
    have sz : sizeLine = 16777216 := sizeLine_eq
    have kn := hS.kn
    have fin : ∀ {v' : V} {d' : PyData} {H' H'' : Hp}, Src2 H' p c → But [p, c] H H' → Ex H' H'' → Df K w (hide [p, c] H'') v' d' → smD d' = true → cnt d' ≤ cnt d + 5 → Q v' H'' := fun S1 b1 e1 h1 h2 h3 => q _ _ _ (S1.ex e1) (b1.trans (But.of e1)) h1 h2 h3
    have base : ∀ (D : Ends) (H1 : Hp), D.rt = Q → Src2 H1 p c → But [p, c] H H1 → bBase K w D [some (.ref p), some v, some (.int (e : Int)), some (.ref o), none, none, none, none] H1 := by
      rintro D H1 hD S1 b1
      refine ⟨_, rfl, p, c, 6, rfl, S1, by decide, by decide, fun r H2 r0 r6 S2 b2 => ⟨_, rfl, _, rfl, p, c, o, os, rfl, S2, Evl.ex_l (b1.trans b2) hos, by omega, by omega, fun j x H3 hj S3 b3 => ⟨_, _, rfl, ?_⟩⟩⟩
      have b13 := (b1.trans b2).trans b3
      obtain ⟨dx, hdx, Dx⟩ := hod.at_ hj
      obtain ⟨smx, cnx⟩ := ok dx (List.mem_of_getElem? hdx)
      have Dx3 := Dx.ex b13
      have D3 := hd.ex b13
      have k3 := S3.kn
      have other : D.rt x H3 := by
        rw [hD]
        exact q x dx H3 S3 b13 Dx3 smx (by omega)
      show tSeq _ _ D [some (.ref p), some v, some (.int (e : Int)), some (.ref o), some (.int r), some x, none, none] H3
      refine ⟨_, rfl, v, _, d, _, rfl, Dw.mono hide_ex _ _ (Dr.w _ _ D3.dr), kit_tup d, _, rfl, ?_⟩
      cases D3 with
      | @tup a xs ds ht hds =>
        have D3 : Df K w (hide [p, c] H3) (.ref a) (.tuple ds) := .tup ht hds
        refine ite2 (fun _ => ⟨_, rfl, _, _, rfl, rfl, _, rfl, ite2 (fun z => ?_) (fun _ => ?_)⟩) (fun z => absurd rfl z)
        rotate_left
        · refine ⟨_, rfl, .ref a, _, .tuple ds, _, rfl, Dw.mono hide_ex _ _ (Dr.w _ _ D3.dr), kit_lst _, _, rfl, ite2 (fun z => by cases z) (fun _ => ⟨_, rfl, other⟩)⟩
        have way : r < 4 := of_decide_eq_true z
        refine ⟨_, rfl, _, rfl, ?_⟩
        dsimp only [tNoPart]
        refine slF_df k3 D3 sm fun q0 es0 H4 e4 N0 s0 c0 => ⟨_, rfl, _, rfl, _, rfl, ?_⟩
        have k4 := k3.ex e4
        refine slF_df k4 (D3.ex (exHide e4)) sm fun q1 es1 H5 e5 N1 s1 c1 => ⟨_, rfl, _, rfl, (by show (1 : Nat) ≤ sizeLine; omega), fun t its hv nt => ?_⟩
        have k5 := k4.ex e5
        have e6 := Ex.new (o := HO.frz (tupO its) (.tup [x])) nt
        have k6 := k5.ex e6
        refine catF_df k6 (D3.ex (exHide ((e4.trans e5).trans e6))) (newT k5 nt hv (.cons (Dx3.ex (exHide (e4.trans e5))) .nil)) (by have h1 := cntAll_len1 ds; have h2 : cntAll ds + 1 ≤ 500 := cn; show ds.length + 1 ≤ 16777216; omega) fun q2 H7 e7 N2 => ⟨_, rfl, ?_⟩
        have k7 := k6.ex e7
        have e37 := ((e4.trans e5).trans e6).trans e7
        dsimp only [tNil]
        refine listN_df k7 (D3.ex (exHide e37)) fun q3 H8 e8 N3 => ⟨(by show (4 : Nat) ≤ sizeLine; omega), fun L nL => ?_⟩
        have e58 := ((e5.trans e6).trans e7).trans e8
        obtain ⟨v', hat, d', hv1, hv2, hv3⟩ := pick4 (Z := fun v => ∃ d', Df K w (hide [p, c] H8) v d' ∧ smD d' = true ∧ cnt d' ≤ cnt (.tuple ds) + 5) r0 way
          ⟨_, N0.ex (exHide e58), s0, (by show cntAll es0 + 1 ≤ cntAll ds + 1 + 5; omega)⟩ ⟨_, N1.ex (exHide ((e6.trans e7).trans e8)), s1, (by show cntAll es1 + 1 ≤ cntAll ds + 1 + 5; omega)⟩
          ⟨_, N2.ex (exHide e8), (by show smAll (ds ++ [dx]) = true; rw [sm_app, Bool.and_eq_true]; exact ⟨sm, by show (smD dx && true) = true; rw [smx]; rfl⟩), (by show cntAll (ds ++ [dx]) + 1 ≤ cntAll ds + 1 + 5; rw [cnt_app]; show cntAll ds + (cnt dx + 0) + 1 ≤ _; omega)⟩
          ⟨_, N3, sm, (by show cntAll ds + 1 ≤ cntAll ds + 1 + 5; omega)⟩
        refine ⟨_, rfl, L, _, r, v', rfl, rfl, SqL.of upd_same, hat, ?_⟩
        have eL := Ex.new (o := HO.lst [V.ref q0, V.ref q1, V.ref q2, V.ref q3]) nL
        show D.rt v' _
        rw [hD]
        exact fin S3 b13 ((e37.trans e8).trans eL) (hv1.ex (exHide eL)) hv2 hv3
      | @lst a xs ds hm hl hds =>
        have D3 : Df K w (hide [p, c] H3) (.ref a) (.list ds) := .lst hm hl hds
        refine ite2 (fun z => by cases z) (fun _ => ⟨_, rfl, .ref a, _, .list ds, _, rfl, Dw.mono hide_ex _ _ (Dr.w _ _ D3.dr), kit_lst _, _, rfl, ite2 (fun _ => ⟨_, rfl, _, _, rfl, rfl, _, rfl, ite2 (fun z => ?_) (fun _ => ⟨_, rfl, other⟩)⟩) (fun z => absurd rfl z)⟩)
        have way : r < 4 := of_decide_eq_true z
        refine ⟨_, rfl, _, rfl, ?_⟩
        dsimp only [tNoPart]
        refine slN_df k3 D3 sm fun q0 es0 H4 e4 N0 s0 c0 => ⟨_, rfl, _, rfl, _, rfl, ?_⟩
        have k4 := k3.ex e4
        refine slN_df k4 (D3.ex (exHide e4)) sm fun q1 es1 H5 e5 N1 s1 c1 => ⟨_, rfl, _, rfl, (by show (1 : Nat) ≤ sizeLine; omega), fun t nt mt => ?_⟩
        have k5 := k4.ex e5
        have e6 := Ex.new (o := HO.lst [x]) nt
        have k6 := k5.ex e6
        refine catN_df k6 (D3.ex (exHide ((e4.trans e5).trans e6))) (newL k5 nt mt (.cons (Dx3.ex (exHide (e4.trans e5))) .nil)) (by have h1 := cntAll_len1 ds; have h2 : cntAll ds + 1 ≤ 500 := cn; show ds.length + 1 ≤ 16777216; omega) fun q2 H7 e7 N2 => ⟨_, rfl, ?_⟩
        have k7 := k6.ex e7
        have e37 := ((e4.trans e5).trans e6).trans e7
        dsimp only [tNil]
        refine tupF_df k7 (D3.ex (exHide e37)) fun q3 H8 e8 N3 => ⟨(by show (4 : Nat) ≤ sizeLine; omega), fun L nL => ?_⟩
        have e58 := ((e5.trans e6).trans e7).trans e8
        obtain ⟨v', hat, d', hv1, hv2, hv3⟩ := pick4 (Z := fun v => ∃ d', Df K w (hide [p, c] H8) v d' ∧ smD d' = true ∧ cnt d' ≤ cnt (.list ds) + 5) r0 way
          ⟨_, N0.ex (exHide e58), s0, (by show cntAll es0 + 1 ≤ cntAll ds + 1 + 5; omega)⟩ ⟨_, N1.ex (exHide ((e6.trans e7).trans e8)), s1, (by show cntAll es1 + 1 ≤ cntAll ds + 1 + 5; omega)⟩
          ⟨_, N2.ex (exHide e8), (by show smAll (ds ++ [dx]) = true; rw [sm_app, Bool.and_eq_true]; exact ⟨sm, by show (smD dx && true) = true; rw [smx]; rfl⟩), (by show cntAll (ds ++ [dx]) + 1 ≤ cntAll ds + 1 + 5; rw [cnt_app]; show cntAll ds + (cnt dx + 0) + 1 ≤ _; omega)⟩
          ⟨_, N3, sm, (by show cntAll ds + 1 ≤ cntAll ds + 1 + 5; omega)⟩
        refine ⟨_, rfl, L, _, r, v', rfl, rfl, SqL.of upd_same, hat, ?_⟩
        have eL := Ex.new (o := HO.lst [V.ref q0, V.ref q1, V.ref q2, V.ref q3]) nL
        show D.rt v' _
        rw [hD]
        exact fin S3 b13 ((e37.trans e8).trans eL) (hv1.ex (exHide eL)) hv2 hv3
      | non => exact ite2 (fun z => by cases z) (fun _ => ⟨_, rfl, _, _, _, _, rfl, .non, kit_lst _, _, rfl, ite2 (fun z => by cases z) (fun _ => ⟨_, rfl, other⟩)⟩)
      | bl b => exact ite2 (fun z => by cases z) (fun _ => ⟨_, rfl, _, _, _, _, rfl, .bl b, kit_lst _, _, rfl, ite2 (fun z => by cases z) (fun _ => ⟨_, rfl, other⟩)⟩)
      | int i => exact ite2 (fun z => by cases z) (fun _ => ⟨_, rfl, _, _, _, _, rfl, .int i, kit_lst _, _, rfl, ite2 (fun z => by cases z) (fun _ => ⟨_, rfl, other⟩)⟩)
      | str y => exact ite2 (fun z => by cases z) (fun _ => ⟨_, rfl, _, _, _, _, rfl, .str y, kit_lst _, _, rfl, ite2 (fun z => by cases z) (fun _ => ⟨_, rfl, other⟩)⟩)
      | dct hm => exact ite2 (fun z => by cases z) (fun _ => ⟨_, rfl, _, _, _, _, rfl, Dw.mono hide_ex _ _ (Dr.w _ _ (Df.dr (.dct hm))), kit_lst _, _, rfl, ite2 (fun z => by cases z) (fun _ => ⟨_, rfl, other⟩)⟩)
    refine ⟨_, rfl, v, d, rfl, Dw.mono hide_ex _ _ (Dr.w _ _ hd.dr), _, rfl, ?_⟩
    cases hd with
    | @tup a xs ds hl0 hds =>
      refine iteF ?_
      have D0 : Df K w (hide [p, c] H) (.ref a) (.tuple ds) := .tup hl0 hds
      have ln := hds.len
      have hlen := cntAll_len1 ds
      have cn' : cntAll ds + 1 ≤ 500 := cn
      refine ⟨_, rfl, a, xs, rfl, .inr (Evl.ex_t hide_ex hl0.sq), rfl, _, rfl, ite2 (fun _ => iteT (base _ H rfl hS But.refl)) (fun z => ⟨_, rfl, rfl, _, rfl, ite2 (fun _ => iteT (base _ H rfl hS But.refl)) (fun z2 => ?_)⟩)⟩
      have xpos : 0 < xs.length := by
        rcases Nat.eq_zero_or_pos xs.length with y | y
        · exact absurd (decide_eq_true (by rw [y]; rfl)) z
        · exact y
      have e0 : e ≠ 0 := fun y => z2 (decide_eq_true (by rw [y]; rfl))
      obtain ⟨e', rfl⟩ := Nat.exists_eq_succ_of_ne_zero e0
      refine ⟨_, rfl, p, c, 5, rfl, hS, by decide, by decide, fun r H1 r0 r5 S1 b1 => ⟨rfl, _, rfl, ite2 (fun _ => base _ H1 rfl S1 b1) (fun _ => ?_)⟩⟩
      dsimp only [tNext]
      refine ⟨_, rfl, _, rfl, a, xs, rfl, .inr (Evl.ex_t hide_ex (Evl.ex_t (b1) hl0.sq)), p, c, _, rfl, S1, by omega, by omega, fun j H2 j0 jl S2 b2 => ?_⟩
      obtain ⟨j, rfl⟩ := Int.eq_ofNat_of_zero_le j0
      have hj : j < xs.length := by omega
      have b12 := b1.trans b2
      obtain ⟨vj, hvj⟩ : ∃ vj, xs[j]? = some vj := ⟨_, List.getElem?_eq_getElem hj⟩
      obtain ⟨dj, hdj, Dj⟩ := hds.at_ hvj
      have smj := sm_at sm hdj
      have cnj := cnt_at1 hdj
      refine ⟨_, rfl, _, rfl, _, rfl, .inr (.inl ⟨a, xs, j, vj, rfl, rfl, (Evl.ex_t hide_ex (Evl.ex_t (b12) hl0.sq)), atI_nat hvj, _, rfl, _, _, rfl, rfl, _, rfl, e', by omega, p, c, o, vj, dj, os, odds, ?_, S2, Dj.ex b12, smj, by omega, Evl.ex_l b12 hos, hod.ex b12, ok, l2, l100, fun vn dn H3 S3 b3 Dn smn cnn => ?_⟩)⟩
      · show [V.ref p, vj, V.int (((e' + 1 : Nat) : Int) - 1), V.ref o] = [V.ref p, vj, V.int (e' : Int), V.ref o]
        rw [show (((e' + 1 : Nat) : Int) - 1) = (e' : Int) by omega]
      have b13 := b12.trans b3
      have D3 := D0.ex b13
      have k3 := S3.kn
      show tSeq _ _ _ [some (.ref p), some (.ref a), some (.int ((e' + 1 : Nat) : Int)), some (.ref o), none, none, some (.int (j : Int)), some vn] H3
      refine ⟨_, rfl, .ref a, _, .tuple ds, _, rfl, Dw.mono hide_ex _ _ (Dr.w _ _ D3.dr), kit_lst _, _, rfl, ite2 (fun z => by cases z) (fun _ => ?_)⟩
      dsimp only [tNext]
      refine ⟨_, rfl, _, rfl, _, rfl, ?_⟩
      refine slF_df' k3 D3 sm fun q0 H4 e4 N0 => ⟨_, rfl, (by show (1 : Nat) ≤ sizeLine; omega), fun t its hv nt => ?_⟩
      have k4 := k3.ex e4
      have e5 := Ex.new (o := HO.frz (tupO its) (.tup [vn])) nt
      have k5 := k4.ex e5
      refine catF_df k5 (N0.ex (exHide e5)) (newT k4 nt hv (.cons (Dn.ex (exHide e4)) .nil)) (by rw [List.length_take]; show _ + 1 ≤ 16777216; omega) fun q1 H6 e6 N1 => ⟨_, rfl, _, rfl, _, _, rfl, rfl, _, rfl, ?_⟩
      have k6 := k5.ex e6
      have e36 := (e4.trans e5).trans e6
      dsimp only [tNoPart]
      refine slF_df'' k6 (D3.ex (exHide e36)) sm fun q2 H7 e7 N2 => ?_
      have k7 := k6.ex e7
      refine catF_df k7 (N1.ex (exHide e7)) N2 (by rw [List.length_append, List.length_take, List.length_drop]; show _ + 1 + _ ≤ 16777216; omega) fun q3 H8 e8 N3 => ?_
      have old := cnt_split ds j
      have old2 : cntAll (ds.drop j) = cnt dj + cntAll (ds.drop (j + 1)) := by
        rw [List.drop_eq_getElem_cons (List.getElem?_eq_some_iff.mp hdj).1, (List.getElem?_eq_some_iff.mp hdj).2]
        rfl
      refine fin S3 b13 ((e36.trans e7).trans e8) N3 ?_ ?_
      · show smAll ((ds.take j ++ [dn]) ++ ds.drop (j + 1)) = true
        rw [sm_app, sm_app, (sm_split j sm).1, (sm_split (j + 1) sm).2]
        show (true && (smD dn && true) && true) = true
        rw [smn]
        rfl
      · show cntAll ((ds.take j ++ [dn]) ++ ds.drop (j + 1)) + 1 ≤ cntAll ds + 1 + 5
        rw [cnt_app, cnt_app]
        show cntAll (ds.take j) + (cnt dn + 0) + cntAll (ds.drop (j + 1)) + 1 ≤ _
        omega
    | @lst a xs ds hm hl0 hds =>
      refine iteF ?_
      have D0 : Df K w (hide [p, c] H) (.ref a) (.list ds) := .lst hm hl0 hds
      have ln := hds.len
      have hlen := cntAll_len1 ds
      have cn' : cntAll ds + 1 ≤ 500 := cn
      refine ⟨_, rfl, a, xs, rfl, .inl (Evl.ex_l hide_ex (SqL.of hl0)), rfl, _, rfl, ite2 (fun _ => iteT (base _ H rfl hS But.refl)) (fun z => ⟨_, rfl, rfl, _, rfl, ite2 (fun _ => iteT (base _ H rfl hS But.refl)) (fun z2 => ?_)⟩)⟩
      have xpos : 0 < xs.length := by
        rcases Nat.eq_zero_or_pos xs.length with y | y
        · exact absurd (decide_eq_true (by rw [y]; rfl)) z
        · exact y
      have e0 : e ≠ 0 := fun y => z2 (decide_eq_true (by rw [y]; rfl))
      obtain ⟨e', rfl⟩ := Nat.exists_eq_succ_of_ne_zero e0
      refine ⟨_, rfl, p, c, 5, rfl, hS, by decide, by decide, fun r H1 r0 r5 S1 b1 => ⟨rfl, _, rfl, ite2 (fun _ => base _ H1 rfl S1 b1) (fun _ => ?_)⟩⟩
      dsimp only [tNext]
      refine ⟨_, rfl, _, rfl, a, xs, rfl, .inl (Evl.ex_l hide_ex (Evl.ex_l (b1) (SqL.of hl0))), p, c, _, rfl, S1, by omega, by omega, fun j H2 j0 jl S2 b2 => ?_⟩
      obtain ⟨j, rfl⟩ := Int.eq_ofNat_of_zero_le j0
      have hj : j < xs.length := by omega
      have b12 := b1.trans b2
      obtain ⟨vj, hvj⟩ : ∃ vj, xs[j]? = some vj := ⟨_, List.getElem?_eq_getElem hj⟩
      obtain ⟨dj, hdj, Dj⟩ := hds.at_ hvj
      have smj := sm_at sm hdj
      have cnj := cnt_at1 hdj
      refine ⟨_, rfl, _, rfl, _, rfl, .inl ⟨a, xs, j, vj, rfl, rfl, (Evl.ex_l hide_ex (Evl.ex_l (b12) (SqL.of hl0))), atI_nat hvj, _, rfl, _, _, rfl, rfl, _, rfl, e', by omega, p, c, o, vj, dj, os, odds, ?_, S2, Dj.ex b12, smj, by omega, Evl.ex_l b12 hos, hod.ex b12, ok, l2, l100, fun vn dn H3 S3 b3 Dn smn cnn => ?_⟩⟩
      · show [V.ref p, vj, V.int (((e' + 1 : Nat) : Int) - 1), V.ref o] = [V.ref p, vj, V.int (e' : Int), V.ref o]
        rw [show (((e' + 1 : Nat) : Int) - 1) = (e' : Int) by omega]
      have b13 := b12.trans b3
      have D3 := D0.ex b13
      have k3 := S3.kn
      show tSeq _ _ _ [some (.ref p), some (.ref a), some (.int ((e' + 1 : Nat) : Int)), some (.ref o), none, none, some (.int (j : Int)), some vn] H3
      refine ⟨_, rfl, .ref a, _, .list ds, _, rfl, Dw.mono hide_ex _ _ (Dr.w _ _ D3.dr), kit_lst _, _, rfl, ite2 (fun _ => ?_) (fun z => absurd rfl z)⟩
      dsimp only [tNext]
      refine ⟨_, rfl, _, rfl, _, rfl, ?_⟩
      refine slN_df' k3 D3 sm fun q0 H4 e4 N0 => ⟨_, rfl, (by show (1 : Nat) ≤ sizeLine; omega), fun t nt mt => ?_⟩
      have k4 := k3.ex e4
      have e5 := Ex.new (o := HO.lst [vn]) nt
      have k5 := k4.ex e5
      refine catN_df k5 (N0.ex (exHide e5)) (newL k4 nt mt (.cons (Dn.ex (exHide e4)) .nil)) (by rw [List.length_take]; show _ + 1 ≤ 16777216; omega) fun q1 H6 e6 N1 => ⟨_, rfl, _, rfl, _, _, rfl, rfl, _, rfl, ?_⟩
      have k6 := k5.ex e6
      have e36 := (e4.trans e5).trans e6
      dsimp only [tNoPart]
      refine slN_df'' k6 (D3.ex (exHide e36)) sm fun q2 H7 e7 N2 => ?_
      have k7 := k6.ex e7
      refine catN_df k7 (N1.ex (exHide e7)) N2 (by rw [List.length_append, List.length_take, List.length_drop]; show _ + 1 + _ ≤ 16777216; omega) fun q3 H8 e8 N3 => ?_
      have old := cnt_split ds j
      have old2 : cntAll (ds.drop j) = cnt dj + cntAll (ds.drop (j + 1)) := by
        rw [List.drop_eq_getElem_cons (List.getElem?_eq_some_iff.mp hdj).1, (List.getElem?_eq_some_iff.mp hdj).2]
        rfl
      refine fin S3 b13 ((e36.trans e7).trans e8) N3 ?_ ?_
      · show smAll ((ds.take j ++ [dn]) ++ ds.drop (j + 1)) = true
        rw [sm_app, sm_app, (sm_split j sm).1, (sm_split (j + 1) sm).2]
        show (true && (smD dn && true) && true) = true
        rw [smn]
        rfl
      · show cntAll ((ds.take j ++ [dn]) ++ ds.drop (j + 1)) + 1 ≤ cntAll ds + 1 + 5
        rw [cnt_app, cnt_app]
        show cntAll (ds.take j) + (cnt dn + 0) + cntAll (ds.drop (j + 1)) + 1 ≤ _
        omega
    | non => exact iteT (iteT (base _ H rfl hS But.refl))
    | bl b => exact iteT (iteT (base _ H rfl hS But.refl))
    | int i => exact iteT (iteT (base _ H rfl hS But.refl))
    | str y => exact iteT (iteT (base _ H rfl hS But.refl))
    | dct hm => exact iteT (iteT (base _ H rfl hS But.refl))
end
end L2.Vf.K01
/-! The law's own look for the first wrong part. -/
namespace L2.Vf.K01
open PySem PySem.Spec PyProof.Rows
open Evl (Ex Ev EvT EvL EvA)
abbrev s__law_wrong_member : Stmt := top 40
abbrev s__law_wrong_book : Stmt := top 41
def rSlS (K : PySem.W.Frag) : V → Option Int → Option Int → Hp → VK → Prop := fun x lo hi H Q => rSlL K x lo hi H Q ∨ rSlA K x lo hi H Q
theorem sl_seqK {X : Cx} {K : PySem.W.Frag} (hK : X.K = K := by rfl) : SlR X (rSlS K) := by
  subst hK
  intro pins s σ H x v vl vu lo hi sl Q I rx hs pl pu h
  rcases h with h | h
  · exact sl_list pins s σ H x v vl vu lo hi sl Q I rx hs pl pu h
  · exact sl_tupA pins s σ H x v vl vu lo hi sl Q I rx hs pl pu h
/-- what is wrong in a member of a part -/
def memberR (n : Nat) (ds : List PyData) (k : Nat) (d : PyData) : Option (List Int) := match n with
  | 0 => sortR ds k d
  | 1 => primR ds k d
  | n => newR d ((ds.take k).map strOf) [(n : Int), (k : Int)]
/-- a path in a list, or nothing -/
def PathV (K : PySem.W.Frag) (H : Hp) (l : Addr) : Option (List Int) → Prop
  | none => H l = some (.lst [])
  | some path => ∃ t, H l = some (.lst [.ref t]) ∧ SqT K H t (path.map V.int)
theorem rIx_go {K : PySem.W.Frag} {H : Hp} {b : Bool} {a : Addr} {xs : List V} {k : Nat} {v : V} {Q : VK} (h : SqB K b H a xs) (hv : xs[k]? = some v) (q : Q v H) : rIx K (.ref a) (.int (k : Int)) H Q := by
  cases b
  · exact .inr (.inl ⟨a, xs, k, v, rfl, rfl, h, atI_nat hv, q⟩)
  · exact .inl ⟨a, xs, k, v, rfl, rfl, h, atI_nat hv, q⟩
theorem slS_go {K : PySem.W.Frag} {H : Hp} {b : Bool} {a : Addr} {xs : List V} {k : Nat} {Q : VK} (h : SqB K b H a xs) (hk : k ≤ xs.length) (q : ∀ r b' H', Ex H H' → SqB K b' H' r (xs.take k) → Q (.ref r) H') : rSlS K (.ref a) none (some (k : Int)) H Q := by
  cases b
  · refine .inr ⟨a, xs, rfl, h, fun z => ?_, fun _ r nr => ?_⟩
    · have z2 := z.2
      rw [HT.sIx_nat, Nat.min_eq_left hk] at z2
      exact q a false H (Ex.refl H) (by rw [z2, List.take_length]; exact h)
    · rw [cut_to hk]
      exact q r false _ (Ex.new nr) (.inl (.inl upd_same))
  · refine .inl ⟨a, xs, rfl, h, fun r nr => ?_⟩
    rw [cut_to hk]
    exact q r true _ (Ex.new nr) (SqL.of upd_same)
theorem sort_row {ds : List PyData} {k : Nat} {x : PyData} (h : sortR ds k x = none) : ∃ y r, x = .tuple [.str y, r] := by
  unfold sortR at h
  split at h
  · rename_i a b
    cases e : newR a ((ds.take k).map nameAt) [0, (k : Int), 0] with
    | some r => rw [e] at h; cases h
    | none =>
      obtain ⟨y, rfl, _⟩ := newR_none e
      exact ⟨y, b, rfl⟩
  · cases h
theorem prim_row {ds : List PyData} {k : Nat} {x : PyData} (h : primR ds k x = none) : ∃ y r, x = .tuple [.str y, r] := by
  unfold primR at h
  split at h
  · rename_i a b
    cases e : newR a ((ds.take k).map nameAt) [1, (k : Int), 0] with
    | some r => rw [e] at h; cases h
    | none =>
      obtain ⟨y, rfl, _⟩ := newR_none e
      exact ⟨y, b, rfl⟩
  · cases h
theorem newR_str (x : Str) (seen : List Str) (path : List Int) : newR (.str x) seen path = if nameD (.str x) && !inV (.str x) (seen.map V.str) then none else some path := rfl
theorem newR_no {d : PyData} {seen : List Str} {path : List Int} (h : nameD d = false) : newR d seen path = some path := by
  cases d with
  | str x =>
    rw [newR_str, h]
    rfl
  | _ => rfl
theorem memberR_ge {n : Nat} (h : ¬ n < 2) (ds : List PyData) (k : Nat) (d : PyData) : memberR n ds k d = newR d ((ds.take k).map strOf) [(n : Int), (k : Int)] := by
  match n, h with
  | 0, h => exact absurd (by decide) h
  | 1, h => exact absurd (by decide) h
  | n + 2, _ => rfl
theorem member_no {n k : Nat} {ds : List PyData} {d : PyData} (h : n < 2) (hr : rowD 2 d = false) : memberR n ds k d = some [(n : Int), (k : Int)] := by
  match n, h with
  | 0, _ =>
    show sortR ds k d = _
    unfold sortR
    split
    · exact absurd rfl (row_ne hr)
    · rfl
  | 1, _ =>
    show primR ds k d = _
    unfold primR
    split
    · exact absurd rfl (row_ne hr)
    · rfl
theorem member_name {n k : Nat} {ds : List PyData} {d0 d1 : PyData} {r : List Int} (h : n < 2) (hr : newR d0 ((ds.take k).map nameAt) [(n : Int), (k : Int), 0] = some r) : memberR n ds k (.tuple [d0, d1]) = some r := by
  match n, h with
  | 0, _ =>
    show (match newR d0 ((ds.take k).map nameAt) [0, (k : Int), 0] with
      | some r => some r
      | none => _) = _
    rw [show newR d0 ((ds.take k).map nameAt) [0, (k : Int), 0] = some r from hr]
  | 1, _ =>
    show (match newR d0 ((ds.take k).map nameAt) [1, (k : Int), 0] with
      | some r => some r
      | none => _) = _
    rw [show newR d0 ((ds.take k).map nameAt) [1, (k : Int), 0] = some r from hr]
theorem member_sort {k : Nat} {ds : List PyData} {d0 d1 : PyData} (hr : newR d0 ((ds.take k).map nameAt) [((0 : Nat) : Int), (k : Int), 0] = none) : memberR 0 ds k (.tuple [d0, d1]) = swR d1 [0, (k : Int), 1] := by
  show (match newR d0 ((ds.take k).map nameAt) [0, (k : Int), 0] with
    | some r => some r
    | none => _) = _
  rw [show newR d0 ((ds.take k).map nameAt) [0, (k : Int), 0] = none from hr]
theorem member_prim {k : Nat} {ds : List PyData} {d0 d1 : PyData} (hr : newR d0 ((ds.take k).map nameAt) [((1 : Nat) : Int), (k : Int), 0] = none) : memberR 1 ds k (.tuple [d0, d1]) = if numD d1 && small3 d1 then none else some [1, (k : Int), 1] := by
  show (match newR d0 ((ds.take k).map nameAt) [1, (k : Int), 0] with
    | some r => some r
    | none => _) = _
  rw [show newR d0 ((ds.take k).map nameAt) [1, (k : Int), 0] = none from hr]
def spWrongMember (K : PySem.W.Frag) (w : World) : Sp := fun vs H Q _ => ∃ (n k : Nat) (a : Addr) (b : Bool) (xs : List V) (ds : List PyData), vs = [.int (n : Int), .ref a, .int (k : Int)] ∧ n < 4 ∧ SqB K b H a xs ∧ DwAll K w H xs ds ∧ smAll ds = true ∧ cntAll ds ≤ 900 ∧ k < xs.length ∧
  (∀ i x, i < k → ds[i]? = some x → memberR n ds i x = none) ∧ ∀ l d H', Ex H H' → ds[k]? = some d → PathV K H' l (memberR n ds k d) → Q (.ref l) H'
section
variable {P : Program} {w : World} {K : PySem.W.Frag} {mg : Str → Option Value} {base : Heap} {f : Addr} {fd : FuncData}
abbrev n__law_wrong_member : List Str := ["_law_number", "_law_rows", "_law_k", "_law_one", "_law_names", "_law_j", "_law_row"]
theorem sc__law_wrong_member : FnScope n__law_wrong_member ["_law_number", "_law_rows", "_law_k"] (defScope s__law_wrong_member) := ⟨rfl, rfl, rfl, by decide +kernel, rfl, by decide +kernel, by decide +kernel⟩
theorem ok_wrong_member (F : Fun K "_law_wrong_member" "_law_wrong_member" s__law_wrong_member f fd) (m_tuple : mg "tuple" = none) (m_list : mg "list" = none) (m_isinstance : mg "isinstance" = none) (m_len : mg "len" = none) (m_range : mg "range" = none)
    (h1 : Has P w K mg base 1 "_law_is_row" ["_law_value", "_law_count"] (spIsRow K w)) (h2 : Has P w K mg base 2 "_law_is_name" ["_law_value"] (spIsName K w)) (h3 : Has P w K mg base 1 "_law_is_count" ["_law_value", "_law_least"] (spIsCount K w)) (h4 : Has P w K mg base 1 "_law_is_word" ["_law_value"] (spIsWord K w)) :
    FnOk P w K mg base CX0 3 f fd ["_law_number", "_law_rows", "_law_k"] (spWrongMember K w) := by
  obtain ⟨f1, fd1, G__law_is_row, m__law_is_row, k__law_is_row, b__law_is_row⟩ := h1
  obtain ⟨f2, fd2, G__law_is_name, m__law_is_name, k__law_is_name, b__law_is_name⟩ := h2
  obtain ⟨f3, fd3, G__law_is_count, m__law_is_count, k__law_is_count, b__law_is_count⟩ := h3
  obtain ⟨f4, fd4, G__law_is_word, m__law_is_word, k__law_is_word, b__law_is_word⟩ := h4
  refine F.ok sc__law_wrong_member (fun vs H Q E h => ?_) (fun cdv A outer s H vs Q E hr h => ?_)
  · obtain ⟨n, k, a, b, xs, ds, rfl, _⟩ := h
    rfl
  obtain ⟨n, k, a, b, xs, ds, rfl, n4, hs, ha, sm, cn, hk, al, q⟩ := h
  refine ⟨_, (pss_cons (ps_par (i := 3) (j := 4) (by rfl) sc__law_wrong_member.nd rfl rfl (by decide) rfl rfl (pa_cons (pe_ix (ix_seqK (K := K)) (pv 1) (pv 2) (fun _ _ => rfl)) (pa_cons (pe_ifExp (pt_cmpR op_lt (pv 0) pe_int (nomark _)) (pe_lc (own := [("_law_row", 6)]) (g := gName 6) (tt := _) rfl sc__law_wrong_member.nd (pi_sqB (pe_slice (sl_seqK (K := K)) (pv 1) po_none (po_some (pv 2)))) (blkOk_by (N := n__law_wrong_member) (sc := defScope s__law_wrong_member) (by decide +kernel)) (fun _ _ _ _ _ => (pg_name (i := 6) sc__law_wrong_member.nd rfl (.inl rfl))) (fun _ _ _ _ _ => pts_nil) (fun _ _ _ _ _ => (pe_ix (ix_tupK (K := K)) (pv 6) pe_int (fun _ _ => rfl)))) (pe_callTy call_list_of (by rfl) m_list (by decide +kernel) (pa_cons (pe_slice (sl_seqK (K := K)) (pv 1) po_none (po_some (pv 2))) pa_nil))) pa_nil)) (by rfl))
  (pss_cons (ps_if (pt_cmpR op_gt (pv 0) pe_int (nomark _))
  (pss_one (ps_ret (pe_ifExp (PW.pt (pw_and (pt_val (pe_call G__law_is_name (hr.mono (by omega)) (by rfl) m__law_is_name k__law_is_name b__law_is_name .nil pass0 (pa_cons (pv 3) pa_nil))) (pw_and1 (pt_cmpR (op_notIn_seqK (K := K)) (pv 3) (pv 4) (by rfl))))) (pe_lst pa_nil) (pe_lst (pa_cons (pe_tup (pa_cons (pv 0) (pa_cons (pv 2) pa_nil))) pa_nil)))))
  pss_nil)
  (pss_cons (ps_if (pt_not (pt_val (pe_call G__law_is_row (hr.mono (by omega)) (by rfl) m__law_is_row k__law_is_row b__law_is_row .nil pass0 (pa_cons (pv 3) (pa_cons pe_int pa_nil)))))
  (pss_one (ps_ret (pe_lst (pa_cons (pe_tup (pa_cons (pv 0) (pa_cons (pv 2) pa_nil))) pa_nil))))
  pss_nil)
  (pss_cons (ps_if (PW.pt (pw_or (pt_not (pt_val (pe_call G__law_is_name (hr.mono (by omega)) (by rfl) m__law_is_name k__law_is_name b__law_is_name .nil pass0 (pa_cons (pe_ix (ix_tupK (K := K)) (pv 3) pe_int (fun _ _ => rfl)) pa_nil)))) (pw_or1 (pt_cmpR (op_in_seqK (K := K)) (pe_ix (ix_tupK (K := K)) (pv 3) pe_int (fun _ _ => rfl)) (pv 4) (by rfl)))))
  (pss_one (ps_ret (pe_lst (pa_cons (pe_tup (pa_cons (pv 0) (pa_cons (pv 2) (pa_cons pe_int pa_nil)))) pa_nil))))
  pss_nil)
  (pss_cons (ps_if (pt_cmpR op_eq (pv 0) pe_int (nomark _))
  (pss_one (ps_ret (pe_ifExp (PW.pt (pw_and (pt_val (pe_call G__law_is_count (hr.mono (by omega)) (by rfl) m__law_is_count k__law_is_count b__law_is_count .nil pass0 (pa_cons (pe_ix (ix_tupK (K := K)) (pv 3) pe_int (fun _ _ => rfl)) (pa_cons pe_int pa_nil)))) (pw_and1 (pt_cmpR op_lt (pe_ix (ix_tupK (K := K)) (pv 3) pe_int (fun _ _ => rfl)) pe_int (nomark _))))) (pe_lst pa_nil) (pe_lst (pa_cons (pe_tup (pa_cons pe_int (pa_cons (pv 2) (pa_cons pe_int pa_nil)))) pa_nil)))))
  pss_nil)
  (pss_cons (ps_if (PW.pt (pw_or (pt_not (pt_val (pe_callB (call_isiD (K := K) (w := w)) (by rfl) m_isinstance (by decide +kernel) (pa_cons (pe_ix (ix_tupK (K := K)) (pv 3) pe_int (fun _ _ => rfl)) (pa_cons (pe_bltn (v := .ty "tuple") (by rfl) m_tuple (by decide +kernel) rfl) pa_nil))))) (pw_or1 (pt_cmpR op_eq (pe_callB (call_lenK (K := K)) (by rfl) m_len PySem.boot_len (pa_cons (pe_ix (ix_tupK (K := K)) (pv 3) pe_int (fun _ _ => rfl)) pa_nil)) pe_int (nomark _)))))
  (pss_one (ps_ret (pe_lst (pa_cons (pe_tup (pa_cons pe_int (pa_cons (pv 2) (pa_cons pe_int pa_nil)))) pa_nil))))
  pss_nil)
  (pss_cons (ps_for PassesOwn.never rfl (pi_range1 rfl m_range (pa_cons (pe_callB (call_lenK (K := K)) (by rfl) m_len PySem.boot_len (pa_cons (pe_ix (ix_tupK (K := K)) (pv 3) pe_int (fun _ _ => rfl)) pa_nil)) pa_nil)) (pg_name (i := 5) sc__law_wrong_member.nd rfl (.inl rfl))
  (pss_one (ps_if (PW.pt (pw_or (pt_not (pt_val (pe_call G__law_is_word (hr.mono (by omega)) (by rfl) m__law_is_word k__law_is_word b__law_is_word .nil pass0 (pa_cons (pe_ix (ix_tupK (K := K)) (pe_ix (ix_tupK (K := K)) (pv 3) pe_int (fun _ _ => rfl)) (pv 5) (fun _ _ => rfl)) pa_nil)))) (pw_or1 (pt_cmpR (op_in_seqK (K := K)) (pe_ix (ix_tupK (K := K)) (pe_ix (ix_tupK (K := K)) (pv 3) pe_int (fun _ _ => rfl)) (pv 5) (fun _ _ => rfl)) (pe_slice (sl_tupK (K := K)) (pe_ix (ix_tupK (K := K)) (pv 3) pe_int (fun _ _ => rfl)) po_none (po_some (pv 5))) (by rfl)))))
  (pss_one (ps_ret (pe_lst (pa_cons (pe_tup (pa_cons pe_int (pa_cons (pv 2) (pa_cons pe_int (pa_cons (pv 5) pa_nil))))) pa_nil))))
  pss_nil)))
  (pss_one (ps_ret (pe_lst pa_nil)))))))))), ?_⟩
  have sz : sizeLine = 16777216 := sizeLine_eq
  have lx : xs.length ≤ 900 := by rw [dwAll_len ha]; have := cntAll_len1 ds; omega
  obtain ⟨v, hv⟩ : ∃ v, xs[k]? = some v := ⟨_, List.getElem?_eq_getElem hk⟩
  obtain ⟨dk, hdk, Dk⟩ := dwAll_at ha hv
  have smk := sm_at sm hdk
  have cnk := cnt_at1 hdk
  refine seq_to (fun σ' H' => ∃ N, σ' = [some (.int (n : Int)), some (.ref a), some (.int (k : Int)), some v, some (.ref N), none, none] ∧ Ex H H' ∧ H' N = some (.lst (((ds.take k).map (if n < 2 then nameAt else strOf)).map V.str))) (fun Nx kx => ?_) ?_
  · refine ⟨_, rfl, _, rfl, rIx_go hs hv ⟨_, rfl, _, _, rfl, rfl, _, rfl, ite2 (fun z => ?_) (fun z => ?_)⟩⟩
    · have n2 : n < 2 := by have := of_decide_eq_true z; omega
      refine ⟨_, rfl, _, rfl, _, rfl, slS_go hs (Nat.le_of_lt hk) fun r b' H1 e1 hr => ⟨r, b', _, rfl, hr, fun D nD => ?_⟩⟩
      refine lc_it (walk_b (K := K) (b := b') (a := r) (xs := xs.take k)) (fun i H' => Ex H1 H' ∧ H' D = some (.lst (((ds.take i).map nameAt).map V.str))) ⟨Ex.new nD, upd_same⟩ (fun i H' _ h => hr.mono h.1) ?_ ?_
      · rintro i x H2 _ hi ⟨e2, hD⟩ ⟨rfl, hx⟩
        rw [List.length_take, Nat.min_eq_left (Nat.le_of_lt hk)] at hi
        rw [List.getElem?_take_of_lt hi] at hx
        obtain ⟨di, hdi, Di⟩ := dwAll_at ha hx
        obtain ⟨y, rr, rfl⟩ : ∃ y r, di = .tuple [.str y, r] := by
          have hn := al i di hi hdi
          match n, n2, hn with
          | 0, _, hn => exact sort_row hn
          | 1, _, hn => exact prim_row hn
        obtain ⟨ra, v0, v1, d0, d1, rfl, ed, hra, D0, D1⟩ := row2 Di rfl
        obtain ⟨rfl, rfl⟩ : d0 = .str y ∧ d1 = rr := by injection ed with ed; injection ed with e1 ed; injection ed with e2 _; exact ⟨e1.symm, e2.symm⟩
        cases D0
        refine ⟨rfl, _, rfl, ra, _, 0, .str y, rfl, rfl, Evl.ex_t (e1.trans e2) hra, rfl, _, hD, ?_, e2.mut nD, ?_⟩
        · rw [List.length_map, List.length_map, List.length_take]
          omega
        · rw [upd_same, take_succ nameAt hdi, List.map_append]
          rfl
      · rintro H2 ⟨e2, hD⟩
        refine ⟨_, _, rfl, kx _ _ ⟨D, rfl, e1.trans e2, ?_⟩⟩
        rw [if_pos n2]
        rw [List.length_take, Nat.min_eq_left (Nat.le_of_lt hk)] at hD
        exact hD
    · have n2 : ¬ n < 2 := fun y => z (decide_eq_true (by omega))
      refine ⟨_, rfl, _, rfl, _, rfl, ?_⟩
      dsimp only [tNoPart, tNil]
      refine slS_go hs (Nat.le_of_lt hk) fun r b' H1 e1 hr => ⟨r, xs.take k, rfl, ?_, fun D nD => ⟨_, _, rfl, kx _ _ ⟨D, rfl, e1.trans (Ex.new nD), ?_⟩⟩⟩
      · cases b'
        · exact .inr hr
        · exact .inl hr
      · rw [upd_same, if_neg n2]
        congr 2
        refine List.ext_getElem? fun i => ?_
        by_cases hi : i < k
        · obtain ⟨vi, hvi⟩ : ∃ vi, xs[i]? = some vi := ⟨_, List.getElem?_eq_getElem (by omega)⟩
          obtain ⟨di, hdi, Di⟩ := dwAll_at ha hvi
          have hn := al i di hi hdi
          rw [memberR_ge n2] at hn
          obtain ⟨y, rfl, _⟩ := newR_none hn
          cases Di
          rw [List.getElem?_take_of_lt hi, List.getElem?_map, List.getElem?_map, List.getElem?_take_of_lt hi, hvi, hdi]
          rfl
        · rw [List.getElem?_eq_none (by rw [List.length_take]; omega), List.getElem?_eq_none (by rw [List.length_map, List.length_map, List.length_take]; omega)]
  rintro _ H2 ⟨N, rfl, e2, hN⟩
  have goodL : memberR n ds k dk = none → ∀ H3, Ex H H3 → ∀ L, H3 L = none → Q (.ref L) (upd H3 L (.lst [])) := fun e H3 e3 L nL => q L dk _ (e3.trans (Ex.new nL)) hdk (by rw [e]; exact upd_same)
  have badL : ∀ {path}, memberR n ds k dk = some path → ∀ H3 t, Ex H H3 → SqT K H3 t (path.map V.int) → ∀ L, H3 L = none → Q (.ref L) (upd H3 L (.lst [.ref t])) := fun {path} e H3 t e3 ht L nL => q L dk _ (e3.trans (Ex.new nL)) hdk (by rw [e]; exact ⟨t, upd_same, Evl.ex_t (Ex.new nL) ht⟩)
  have Dk2 := Dw.mono e2 _ _ Dk
  refine ⟨_, rfl, _, _, rfl, rfl, _, rfl, ite2 (fun z => ?_) (fun z => ?_)⟩
  · have n2 : ¬ n < 2 := by have := of_decide_eq_true z; omega
    rw [if_neg n2] at hN
    have bad2 : ∀ H3, Ex H2 H3 → memberR n ds k dk = some [(n : Int), (k : Int)] → tLst (tCons (tTup (tCons (tVar 0) (tCons (tVar 2) tNil))) tNil) [some (.int (n : Int)), some (.ref a), some (.int (k : Int)), some v, some (.ref N), none, none] H3 Q := fun H3 e3 e =>
      ⟨_, rfl, _, rfl, (by show (2 : Nat) ≤ sizeLine; omega), fun t nt => ⟨(by show (1 : Nat) ≤ sizeLine; omega), fun L nL => badL e _ t ((e2.trans e3).trans (Ex.new nt)) (.inl (.inl upd_same)) L nL⟩⟩
    refine ⟨_, rfl, v, dk, rfl, Dk2, sm_len smk, fun H3 e3 => ⟨_, rfl, ite2 (fun zn => ?_) (fun zn => ?_)⟩⟩
    · obtain ⟨x, rfl, _⟩ := nameD_word zn
      cases Dk
      have e := memberR_ge n2 ds k (.str x)
      rw [newR_str, zn, Bool.true_and] at e
      refine ⟨_, rfl, _, rfl, N, _, rfl, .inl (SqL.of (e3 _ _ hN)), rfl, strs_flat _, _, rfl, ite2 (fun zi => ?_) (fun zi => ?_)⟩
      · refine ⟨(by show (0 : Nat) ≤ sizeLine; omega), fun L nL => goodL ?_ _ (e2.trans e3) L nL⟩
        rw [e]
        exact if_pos zi
      · refine bad2 H3 e3 ?_
        rw [e]
        exact if_neg zi
    · refine bad2 H3 e3 ?_
      rw [memberR_ge n2]
      exact newR_no (Bool.eq_false_iff.mpr zn)
  have n2 : n < 2 := Classical.byContradiction fun y => z (decide_eq_true (by omega))
  rw [if_pos n2] at hN
  dsimp only [tNext]
  have lst1 : ∀ {path : List Int}, memberR n ds k dk = some path → ∀ H3 t, Ex H H3 → H3 t = none → (1 : Nat) ≤ sizeLine ∧ ∀ L, (upd H3 t (.tup (path.map V.int))) L = none → Q (.ref L) (upd (upd H3 t (.tup (path.map V.int))) L (.lst [.ref t])) := fun {path} e H3 t e3 nt => ⟨by omega, fun L nL => badL e _ t (e3.trans (Ex.new nt)) (.inl (.inl upd_same)) L nL⟩
  refine ⟨_, rfl, v, dk, 2, rfl, Dk2, fun H3 e3 => ⟨_, rfl, ?_⟩⟩
  have e23 := e2.trans e3
  cases hr2 : rowD 2 dk with
  | false => exact iteT ⟨_, rfl, _, rfl, (by show (2 : Nat) ≤ sizeLine; omega), fun t nt => lst1 (path := [(n : Int), (k : Int)]) (member_no n2 hr2) H3 t e23 nt⟩
  | true =>
  refine iteF ?_
  dsimp only [tNext]
  obtain ⟨ra, v0, v1, d0, d1, rfl, rfl, hra, D0, D1⟩ := row2 Dk hr2
  have sm0 : smD d0 = true := sm_at (ds := [d0, d1]) (i := 0) smk rfl
  have sm1 : smD d1 = true := sm_at (ds := [d0, d1]) (i := 1) smk rfl
  have cn1 : cnt d1 ≤ cnt (.tuple [d0, d1]) := items_cnt (d := .tuple [d0, d1]) (i := 1) rfl
  refine ⟨_, rfl, ra, _, _, v0, rfl, rfl, Evl.ex_t e23 hra, rfl, v0, d0, rfl, Dw.mono e23 _ _ D0, sm_len sm0, fun H4 e4 => ⟨_, rfl, ?_⟩⟩
  have e24 := e23.trans e4
  cases hn : nameD d0 with
  | false => exact iteT (iteT ⟨_, rfl, _, rfl, (by show (3 : Nat) ≤ sizeLine; omega), fun t nt => lst1 (path := [(n : Int), (k : Int), 0]) (member_name n2 (newR_no hn)) H4 t e24 nt⟩)
  | true =>
  refine iteF ?_
  obtain ⟨x0, rfl, _⟩ := nameD_word hn
  cases D0
  have eN : newR (.str x0) ((ds.take k).map nameAt) [(n : Int), (k : Int), 0] = if (!inV (.str x0) (((ds.take k).map nameAt).map V.str)) then none else some [(n : Int), (k : Int), 0] := by rw [newR_str, hn, Bool.true_and]
  refine ⟨_, rfl, ra, _, _, .str x0, rfl, rfl, Evl.ex_t e24 hra, rfl, _, rfl, N, _, rfl, .inl (SqL.of (e4 _ _ (e3 _ _ hN))), rfl, strs_flat _, _, rfl, ite2 (fun zi => ⟨_, rfl, _, rfl, (by show (3 : Nat) ≤ sizeLine; omega), fun t nt => lst1 (path := [(n : Int), (k : Int), 0]) (member_name n2 ?_) H4 t e24 nt⟩) (fun zi => ?_)⟩
  · rw [eN, show inV (.str x0) (((ds.take k).map nameAt).map V.str) = true from zi]
    rfl
  have hN0 : newR (.str x0) ((ds.take k).map nameAt) [(n : Int), (k : Int), 0] = none := by
    rw [eN, show inV (.str x0) (((ds.take k).map nameAt).map V.str) = false from Bool.eq_false_iff.mpr zi]
    rfl
  dsimp only [tNext]
  refine ⟨_, rfl, rfl, _, rfl, ite2 (fun z1 => ?_) (fun z1 => ?_)⟩
  · obtain rfl : n = 1 := by have := of_decide_eq_true z1; injection this with this; omega
    have eM := member_prim (d1 := d1) hN0
    refine ⟨_, rfl, ra, _, _, v1, rfl, rfl, Evl.ex_t e24 hra, rfl, v1, d1, rfl, Dw.mono e24 _ _ D1, fun H5 e5 => ⟨_, rfl, ite2 (fun zc => ?_) (fun zc => ?_)⟩⟩
    · obtain ⟨j, rfl⟩ : ∃ j, d1 = .int j := by
        cases d1 with
        | int j => exact ⟨j, rfl⟩
        | _ => cases zc
      cases D1
      have e25 := e24.trans e5
      have eJ : small3 (.int j) = decide (j < 3) := decide_eq_decide.mpr (by omega)
      rw [show numD (.int j) = true from zc, Bool.true_and, eJ] at eM
      refine ⟨_, rfl, ra, _, _, .int j, rfl, rfl, Evl.ex_t e25 hra, rfl, _, _, rfl, rfl, _, rfl, ite2 (fun z3 => ⟨(by show (0 : Nat) ≤ sizeLine; omega), fun L nL => goodL ?_ H5 e25 L nL⟩) (fun z3 => ⟨_, rfl, (by show (3 : Nat) ≤ sizeLine; omega), fun t nt => lst1 (path := [1, (k : Int), 1]) ?_ H5 t e25 nt⟩)⟩
      · rw [eM]
        exact if_pos z3
      · rw [eM]
        exact if_neg z3
    · rw [show numD d1 = false from Bool.eq_false_iff.mpr zc, Bool.false_and] at eM
      exact ⟨_, rfl, (by show (3 : Nat) ≤ sizeLine; omega), fun t nt => lst1 (path := [1, (k : Int), 1]) eM H5 t (e24.trans e5) nt⟩
  obtain rfl : n = 0 := by
    rcases Nat.lt_or_ge n 1 with y | y
    · omega
    · exact absurd (decide_eq_true (by rw [show n = 1 by omega]; rfl)) z1
  have eM := member_sort (d1 := d1) hN0
  dsimp only [tNext]
  have notT : (∀ es, d1 ≠ .tuple es) → memberR 0 ds k (.tuple [.str x0, d1]) = some [0, (k : Int), 1] := fun y => by
    rw [eM]
    unfold swR
    cases d1 with
    | tuple es => exact absurd rfl (y es)
    | _ => rfl
  refine ⟨_, rfl, ra, _, _, v1, rfl, rfl, Evl.ex_t e24 hra, rfl, v1, _, d1, _, rfl, Dw.mono e24 _ _ D1, kit_tup d1, _, rfl, ?_⟩
  cases D1 with
  | @tup wa ws es hws hwe =>
    refine iteF ?_
    have lw := dwAll_len hwe
    refine ⟨_, rfl, ra, _, _, .ref wa, rfl, rfl, Evl.ex_t e24 hra, rfl, wa, ws, rfl, .inr (Evl.ex_t e24 hws), rfl, _, rfl, ite2 (fun z0 => ?_) (fun z0 => ?_)⟩
    · refine ⟨_, rfl, (by show (3 : Nat) ≤ sizeLine; omega), fun t nt => lst1 (path := [0, (k : Int), 1]) ?_ H4 t e24 nt⟩
      have : ws.length = 0 := by have := of_decide_eq_true z0; injection this with this; omega
      have e0 : es = [] := List.length_eq_zero_iff.mp (by omega)
      rw [eM, e0]
      rfl
    have epos : es ≠ [] := fun y => z0 (decide_eq_true (by rw [lw, y]; rfl))
    have eS : swR (.tuple es) [0, (k : Int), 1] = scanR (wordR es [0, (k : Int), 1]) 0 es := by
      cases es with
      | nil => exact absurd rfl epos
      | cons e0 er => rfl
    have lw9 : ws.length ≤ 900 := by
      rw [lw]
      have h1 := cntAll_len1 es
      have h2 : cnt (.tuple es) = cntAll es + 1 := rfl
      omega
    dsimp only [tNext]
    refine ⟨_, rfl, ra, _, _, .ref wa, rfl, rfl, Evl.ex_t e24 hra, rfl, wa, ws, rfl, .inr (Evl.ex_t e24 hws), _, rfl, by omega, by omega, for_range (lo := 0) (n := ((ws.length : Nat) : Int).toNat) (fun i σ H' => (∃ y5, σ = [some (.int ((0 : Nat) : Int)), some (.ref a), some (.int (k : Int)), some (.ref ra), some (.ref N), y5, none]) ∧ Ex H4 H' ∧ ∀ j x, j < i → es[j]? = some x → wordR es [0, (k : Int), 1] j x = none)
      ⟨⟨none, rfl⟩, Ex.refl _, fun j x y => absurd y (Nat.not_lt_zero j)⟩ ?_ ?_⟩
    · rintro i σ H5 hi ⟨⟨y5, rfl⟩, e5, alw⟩
      rw [Int.toNat_natCast] at hi
      have e25 := e24.trans e5
      obtain ⟨y, hy⟩ : ∃ y, ws[i]? = some y := ⟨_, List.getElem?_eq_getElem hi⟩
      obtain ⟨dy, hdy, Dy⟩ := dwAll_at hwe hy
      have smy := sm_at (ds := es) sm1 hdy
      have hi0 : ((0 : Int) + (i : Int)) = (i : Int) := by omega
      rw [hi0]
      have bad4 : wordR es [0, (k : Int), 1] i dy = some [0, (k : Int), 1, (i : Int)] → memberR 0 ds k (.tuple [.str x0, .tuple es]) = some [0, (k : Int), 1, (i : Int)] := fun e => by
        rw [eM, eS]
        exact scanR_some (k := i) (fun k' x' lt hx' => by rw [Nat.zero_add]; exact alw k' x' lt hx') hdy (by rw [Nat.zero_add]; exact e)
      refine ⟨_, rfl, ra, _, _, .ref wa, rfl, rfl, Evl.ex_t e25 hra, rfl, _, rfl, wa, ws, _, y, rfl, rfl, Evl.ex_t e25 hws, atI_nat hy, y, dy, rfl, Dw.mono e25 _ _ Dy, sm_len smy, fun H6 e6 => ⟨_, rfl, ?_⟩⟩
      have e26 := e25.trans e6
      cases hw : wordD dy with
      | false =>
        refine iteT (iteT ⟨_, rfl, _, rfl, (by show (4 : Nat) ≤ sizeLine; omega), fun t nt => lst1 (path := [0, (k : Int), 1, (i : Int)]) (bad4 ?_) H6 t e26 nt⟩)
        unfold wordR
        rw [hw, Bool.false_and]
        rfl
      | true =>
        refine iteF ?_
        obtain ⟨x, rfl, _⟩ := wordD_str hw
        cases Dy
        have strx : ws.take i = ((es.take i).map strOf).map V.str := by
          refine List.ext_getElem? fun n => ?_
          by_cases hn : n < i
          · obtain ⟨vn, hvn⟩ : ∃ vn, ws[n]? = some vn := ⟨_, List.getElem?_eq_getElem (by omega)⟩
            obtain ⟨dn, hdn, Dn⟩ := dwAll_at hwe hvn
            have w0 := alw n dn hn hdn
            have wd : wordD dn = true := by
              unfold wordR at w0
              cases e : wordD dn with
              | true => rfl
              | false => rw [e, Bool.false_and] at w0; cases w0
            obtain ⟨xn, rfl, _⟩ := wordD_str wd
            cases Dn
            rw [List.getElem?_take_of_lt hn, List.getElem?_map, List.getElem?_map, List.getElem?_take_of_lt hn, hvn, hdn]
            rfl
          · rw [List.getElem?_eq_none (by rw [List.length_take]; omega), List.getElem?_eq_none (by rw [List.length_map, List.length_map, List.length_take]; omega)]
        have rr : wordR es [0, (k : Int), 1] i (.str x) = if (!inV (.str x) (((es.take i).map strOf).map V.str)) then none else some [0, (k : Int), 1, (i : Int)] := by
          unfold wordR
          rw [hw, Bool.true_and]
          rfl
        refine ⟨_, rfl, ra, _, _, .ref wa, rfl, rfl, Evl.ex_t e26 hra, rfl, _, rfl, wa, ws, _, .str x, rfl, rfl, Evl.ex_t e26 hws, atI_nat hy, _, rfl, ra, _, _, .ref wa, rfl, rfl, Evl.ex_t e26 hra, rfl, _, rfl, _, rfl, wa, ws, rfl, Evl.ex_t e26 hws, fun z => ?_, fun _ c nc => ⟨c, _, rfl, .inr (.inl (.inl upd_same)), rfl, ?_, _, rfl, ite2 (fun zi => ?_) (fun zi => ?_)⟩⟩
        · exfalso
          have z2 := z.2
          rw [HT.sIx_nat, Nat.min_eq_left (Nat.le_of_lt hi)] at z2
          omega
        · rw [cut_to (Nat.le_of_lt hi), strx]
          exact strs_flat _
        · refine ⟨_, rfl, _, rfl, (by show (4 : Nat) ≤ sizeLine; omega), fun t nt => lst1 (path := [0, (k : Int), 1, (i : Int)]) (bad4 ?_) _ t (e26.trans (Ex.new nc)) nt⟩
          rw [cut_to (Nat.le_of_lt hi), strx] at zi
          rw [rr, show inV (.str x) (((es.take i).map strOf).map V.str) = true from zi]
          rfl
        · rw [cut_to (Nat.le_of_lt hi), strx] at zi
          refine ⟨⟨_, rfl⟩, (e5.trans e6).trans (Ex.new nc), fun j x2 hj hx2 => ?_⟩
          rcases Nat.lt_or_ge j i with lt | ge
          · exact alw j x2 lt hx2
          · have ej : j = i := by omega
            subst ej
            rw [hdy] at hx2
            obtain rfl := Option.some.inj hx2
            rw [rr, show inV (.str x) (((es.take j).map strOf).map V.str) = false from Bool.eq_false_iff.mpr zi]
            rfl
    · rintro σ H5 ⟨⟨y5, rfl⟩, e5, alw⟩
      refine ⟨(by show (0 : Nat) ≤ sizeLine; omega), fun L nL => goodL ?_ H5 (e24.trans e5) L nL⟩
      rw [eM, eS]
      refine scanR_none fun j x hj => ?_
      rw [Nat.zero_add]
      have := (List.getElem?_eq_some_iff.mp hj).1
      exact alw j x (by rw [Int.toNat_natCast]; omega) hj
  | non => exact iteT (iteT ⟨_, rfl, (by show (3 : Nat) ≤ sizeLine; omega), fun t nt => lst1 (path := [0, (k : Int), 1]) (notT (fun es y => by cases y)) H4 t e24 nt⟩)
  | bl b => exact iteT (iteT ⟨_, rfl, (by show (3 : Nat) ≤ sizeLine; omega), fun t nt => lst1 (path := [0, (k : Int), 1]) (notT (fun es y => by cases y)) H4 t e24 nt⟩)
  | int i => exact iteT (iteT ⟨_, rfl, (by show (3 : Nat) ≤ sizeLine; omega), fun t nt => lst1 (path := [0, (k : Int), 1]) (notT (fun es y => by cases y)) H4 t e24 nt⟩)
  | str y => exact iteT (iteT ⟨_, rfl, (by show (3 : Nat) ≤ sizeLine; omega), fun t nt => lst1 (path := [0, (k : Int), 1]) (notT (fun es y => by cases y)) H4 t e24 nt⟩)
  | lst _ _ _ => exact iteT (iteT ⟨_, rfl, (by show (3 : Nat) ≤ sizeLine; omega), fun t nt => lst1 (path := [0, (k : Int), 1]) (notT (fun es y => by cases y)) H4 t e24 nt⟩)
  | dct _ _ => exact iteT (iteT ⟨_, rfl, (by show (3 : Nat) ≤ sizeLine; omega), fun t nt => lst1 (path := [0, (k : Int), 1]) (notT (fun es y => by cases y)) H4 t e24 nt⟩)
end
end L2.Vf.K01
/-! The law's own look at a whole book. -/
namespace L2.Vf.K01
open PySem PySem.Spec PyProof.Rows
open Evl (Ex Ev EvT EvL EvA)
def partR (n : Nat) (d : PyData) : Option (List Int) := if lstD d || tupD d then scanR (memberR n (itemsD d)) 0 (itemsD d) else some [(n : Int)]
theorem bookR_scan (d0 d1 d2 d3 : PyData) : bookR d0 d1 d2 d3 = scanR partR 0 [d0, d1, d2, d3] := by
  have e0 : sortsR d0 = partR 0 d0 := rfl
  have e1 : primsR d1 = partR 1 d1 := rfl
  have e2 : plainR 2 d2 = partR 2 d2 := rfl
  have e3 : plainR 3 d3 = partR 3 d3 := rfl
  unfold bookR
  rw [e0, e1, e2, e3]
  show _ = (match partR 0 d0 with
    | some r => some r
    | none => match partR 1 d1 with
      | some r => some r
      | none => match partR 2 d2 with
        | some r => some r
        | none => match partR 3 d3 with
          | some r => some r
          | none => none)
  cases partR 0 d0 with
  | some r => rfl
  | none =>
  cases partR 1 d1 with
  | some r => rfl
  | none =>
  cases partR 2 d2 with
  | some r => rfl
  | none =>
  cases partR 3 d3 with
  | some r => rfl
  | none => rfl
def spWrongBook (K : PySem.W.Frag) (w : World) : Sp := fun vs H Q _ => ∃ (a : Addr) (b : Bool) (xs : List V) (d0 d1 d2 d3 : PyData), vs = [.ref a] ∧ SqB K b H a xs ∧ DwAll K w H xs [d0, d1, d2, d3] ∧ smAll [d0, d1, d2, d3] = true ∧ cntAll [d0, d1, d2, d3] ≤ 800 ∧
  ∀ l H', Ex H H' → PathV K H' l (bookR d0 d1 d2 d3) → Q (.ref l) H'
section
variable {P : Program} {w : World} {K : PySem.W.Frag} {mg : Str → Option Value} {base : Heap} {f : Addr} {fd : FuncData}
abbrev n__law_wrong_book : List Str := ["_law_parts", "_law_number", "_law_k", "_law_found"]
theorem sc__law_wrong_book : FnScope n__law_wrong_book ["_law_parts"] (defScope s__law_wrong_book) := ⟨rfl, rfl, rfl, by decide +kernel, rfl, by decide +kernel, by decide +kernel⟩
theorem ok_wrong_book (F : Fun K "_law_wrong_book" "_law_wrong_book" s__law_wrong_book f fd) (m_len : mg "len" = none) (m_range : mg "range" = none)
    (h1 : Has P w K mg base 1 "_law_is_listing" ["_law_value"] (spIsListing K w)) (h2 : Has P w K mg base 3 "_law_wrong_member" ["_law_number", "_law_rows", "_law_k"] (spWrongMember K w)) :
    FnOk P w K mg base CX0 4 f fd ["_law_parts"] (spWrongBook K w) := by
  obtain ⟨f1, fd1, G__law_is_listing, m__law_is_listing, k__law_is_listing, b__law_is_listing⟩ := h1
  obtain ⟨f2, fd2, G__law_wrong_member, m__law_wrong_member, k__law_wrong_member, b__law_wrong_member⟩ := h2
  refine F.ok sc__law_wrong_book (fun vs H Q E h => ?_) (fun cdv A outer s H vs Q E hr h => ?_)
  · obtain ⟨a, b, xs, d0, d1, d2, d3, rfl, _⟩ := h
    rfl
  obtain ⟨a, b, xs, d0, d1, d2, d3, rfl, hs, ha, sm, cn, q⟩ := h
  refine ⟨_, (pss_cons (ps_for PassesOwn.never rfl (pi_range1 rfl m_range (pa_cons pe_int pa_nil)) (pg_name (i := 1) sc__law_wrong_book.nd rfl (.inl rfl))
  (pss_cons (ps_if (pt_not (pt_val (pe_call G__law_is_listing (hr.mono (by omega)) (by rfl) m__law_is_listing k__law_is_listing b__law_is_listing .nil pass0 (pa_cons (pe_ix (ix_seqK (K := K)) (pv 0) (pv 1) (fun _ _ => rfl)) pa_nil))))
  (pss_one (ps_ret (pe_lst (pa_cons (pe_tup (pa_cons (pv 1) pa_nil)) pa_nil))))
  pss_nil)
  (pss_one (ps_for PassesOwn.never rfl (pi_range1 rfl m_range (pa_cons (pe_callB (call_lenK (K := K)) (by rfl) m_len PySem.boot_len (pa_cons (pe_ix (ix_seqK (K := K)) (pv 0) (pv 1) (fun _ _ => rfl)) pa_nil)) pa_nil)) (pg_name (i := 2) sc__law_wrong_book.nd rfl (.inl rfl))
  (pss_cons (ps_set (i := 3) sc__law_wrong_book.nd rfl (.inl rfl) (pe_call G__law_wrong_member (hr.mono (by omega)) (by rfl) m__law_wrong_member k__law_wrong_member b__law_wrong_member .nil pass0 (pa_cons (pv 1) (pa_cons (pe_ix (ix_seqK (K := K)) (pv 0) (pv 1) (fun _ _ => rfl)) (pa_cons (pv 2) pa_nil)))))
  (pss_one (ps_if (pt_cmpR (op_neE (K := K) (units0' hr)) (pv 3) (pe_lst pa_nil) (nomark _))
  (pss_one (ps_ret (pv 3)))
  pss_nil)))))))
  (pss_one (ps_ret (pe_lst pa_nil)))), ?_⟩
  have sz : sizeLine = 16777216 := sizeLine_eq
  rw [bookR_scan] at q
  have l4 : xs.length = 4 := dwAll_len ha
  generalize eds : [d0, d1, d2, d3] = ds at ha sm cn q
  have ld : ds.length = 4 := by rw [← eds]; rfl
  refine ⟨_, rfl, by omega, by omega, for_range (lo := 0) (n := ((4 : Nat) : Int).toNat) (fun i σ H' => (∃ y1 y2 y3, σ = [some (.ref a), y1, y2, y3]) ∧ Ex H H' ∧ ∀ j x, j < i → ds[j]? = some x → partR j x = none)
    ⟨⟨none, none, none, rfl⟩, Ex.refl H, fun j x y => absurd y (Nat.not_lt_zero j)⟩ ?_ ?_⟩
  · rintro i σ H1 hi ⟨⟨y1, y2, y3, rfl⟩, e1, al⟩
    have hi4 : i < 4 := hi
    obtain ⟨v, hv⟩ : ∃ v, xs[i]? = some v := ⟨_, List.getElem?_eq_getElem (by omega)⟩
    obtain ⟨d, hd, Dd⟩ := dwAll_at ha hv
    have smd := sm_at sm hd
    have cnd := cnt_at1 hd
    have hi0 : ((0 : Int) + (i : Int)) = (i : Int) := by omega
    rw [hi0]
    have bad : ∀ {r}, partR i d = some r → ∀ l H', Ex H H' → PathV K H' l (some r) → Q (.ref l) H' := fun {r} e l H' x hp => q l H' x (by
      rw [scanR_some (k := i) (fun k' x' lt hx' => by rw [Nat.zero_add]; exact al k' x' lt hx') hd (by rw [Nat.zero_add]; exact e)]
      exact hp)
    refine ⟨_, rfl, _, rfl, rIx_go (hs.mono e1) hv ⟨v, d, rfl, Dw.mono e1 _ _ Dd, _, rfl, ?_⟩⟩
    cases hl : (lstD d || tupD d) with
    | false =>
      refine iteT ⟨_, rfl, (by show (1 : Nat) ≤ sizeLine; omega), fun t nt => ⟨(by show (1 : Nat) ≤ sizeLine; omega), fun L nL => ?_⟩⟩
      refine bad (r := [(i : Int)]) (by unfold partR; rw [hl]; rfl) L _ ((e1.trans (Ex.new nt)).trans (Ex.new nL)) ⟨t, upd_same, Evl.ex_t (Ex.new nL) (.inl (.inl upd_same))⟩
    | true =>
    refine iteF ?_
    dsimp only [tNext]
    obtain ⟨da, db, dxs, rfl, hds, hda⟩ := dw_seq Dd hl
    have lx := dwAll_len hda
    have eP : partR i d = scanR (memberR i (itemsD d)) 0 (itemsD d) := by
      unfold partR
      rw [hl]
      rfl
    have il := items_len d
    have ic : cntAll (itemsD d) ≤ cnt d := by
      cases d with
      | list es => show cntAll es ≤ cntAll es + 1; omega
      | tuple es => show cntAll es ≤ cntAll es + 1; omega
      | _ => exact Nat.zero_le _
    refine ⟨_, rfl, _, rfl, rIx_go (hs.mono e1) hv ⟨da, dxs, rfl, (hds.mono e1).lenS, _, rfl, by omega, by omega, for_range (lo := 0) (n := ((dxs.length : Nat) : Int).toNat) (fun k σ H' => (∃ y2 y3, σ = [some (.ref a), some (.int (i : Int)), y2, y3]) ∧ Ex H H' ∧ ∀ j x, j < k → (itemsD d)[j]? = some x → memberR i (itemsD d) j x = none)
      ⟨⟨_, _, rfl⟩, e1, fun j x y => absurd y (Nat.not_lt_zero j)⟩ ?_ ?_⟩⟩
    · rintro k σ H2 hk ⟨⟨z2, z3, rfl⟩, e2, alk⟩
      rw [Int.toNat_natCast] at hk
      have hk0 : ((0 : Int) + (k : Int)) = (k : Int) := by omega
      rw [hk0]
      refine ⟨_, rfl, _, rfl, _, rfl, rIx_go (hs.mono e2) hv ⟨_, rfl, i, k, da, db, dxs, itemsD d, rfl, hi4, hds.mono e2, DwAll.mono e2 _ _ hda, items_sm smd, by omega, hk, alk, fun l dk H3 e3 hdk hp => ?_⟩⟩
      have e23 := e2.trans e3
      cases hm : memberR i (itemsD d) k dk with
      | none =>
        rw [hm] at hp
        have hp' : H3 l = some (.lst []) := hp
        refine ⟨_, rfl, (by show (0 : Nat) ≤ sizeLine; omega), fun D2 nD2 => ⟨l, D2, [], rfl, rfl, SqL.of (Ex.new nD2 _ _ hp'), SqL.of upd_same, _, rfl, iteF ⟨⟨_, _, rfl⟩, e23.trans (Ex.new nD2), fun j x2 hj hx2 => ?_⟩⟩⟩
        rcases Nat.lt_or_ge j k with lt | ge
        · exact alk j x2 lt hx2
        · have ej : j = k := by omega
          subst ej
          rw [hdk] at hx2
          obtain rfl := Option.some.inj hx2
          exact hm
      | some path =>
        rw [hm] at hp
        obtain ⟨t, h1, h2⟩ := hp
        refine ⟨_, rfl, (by show (0 : Nat) ≤ sizeLine; omega), fun D2 nD2 => ⟨l, D2, [.ref t], rfl, rfl, SqL.of (Ex.new nD2 _ _ h1), SqL.of upd_same, _, rfl, iteT ⟨_, rfl, ?_⟩⟩⟩
        refine bad (r := path) ?_ l _ (e23.trans (Ex.new nD2)) ⟨t, Ex.new nD2 _ _ h1, Evl.ex_t (Ex.new nD2) h2⟩
        rw [eP]
        exact scanR_some (k := k) (fun k' x' lt hx' => by rw [Nat.zero_add]; exact alk k' x' lt hx') hdk (by rw [Nat.zero_add]; exact hm)
    · rintro σ H2 ⟨⟨z2, z3, rfl⟩, e2, alk⟩
      refine ⟨⟨_, _, _, rfl⟩, e2, fun j x hj hx => ?_⟩
      rcases Nat.lt_or_ge j i with lt | ge
      · exact al j x lt hx
      · have ej : j = i := by omega
        subst ej
        rw [hd] at hx
        obtain rfl := Option.some.inj hx
        rw [eP]
        refine scanR_none fun m y hm => ?_
        rw [Nat.zero_add]
        have := (List.getElem?_eq_some_iff.mp hm).1
        exact alk m y (by rw [Int.toNat_natCast]; omega) hm
  · rintro σ H1 ⟨⟨y1, y2, y3, rfl⟩, e1, al⟩
    refine ⟨(by show (0 : Nat) ≤ sizeLine; omega), fun L nL => q L _ (e1.trans (Ex.new nL)) ?_⟩
    rw [scanR_none fun j x hj => by
      rw [Nat.zero_add]
      have := (List.getElem?_eq_some_iff.mp hj).1
      exact al j x (by show j < 4; omega) hj]
    exact upd_same
end
end L2.Vf.K01
/-! A book of four parts; why parts are refused. -/
namespace L2.Vf.K01
open PySem PySem.Spec PyProof.Rows
open Evl (Ex Ev EvT EvL EvA)
abbrev s__law_book : Stmt := top 38
abbrev s__law_refused : Stmt := top 42
/-- four parts, as data -/
structure Four (K : PySem.W.Frag) (w : World) (H : Hp) (a : Addr) (d0 d1 d2 d3 : PyData) : Prop where
  ex : ∃ (b : Bool) (xs : List V), SqB K b H a xs ∧ DwAll K w H xs [d0, d1, d2, d3] ∧ (∀ v, xs[1]? = some v → TopF K w H v d1)
  sm : smAll [d0, d1, d2, d3] = true
  cn : cntAll [d0, d1, d2, d3] ≤ 800
theorem TopF.ex {K : PySem.W.Frag} {w : World} {H H' : Hp} {v : V} {d : PyData} (h : TopF K w H v d) (e : Ex H H') : TopF K w H' v d := fun t => by
  obtain ⟨a, xs, h1, h2, h3⟩ := h t
  exact ⟨a, xs, h1, h2.ex e, DwAll.mono e _ _ h3⟩
theorem Four.mono {K : PySem.W.Frag} {w : World} {H H' : Hp} {a : Addr} {d0 d1 d2 d3 : PyData} (h : Four K w H a d0 d1 d2 d3) (e : Ex H H') : Four K w H' a d0 d1 d2 d3 := by
  obtain ⟨⟨b, xs, h1, h2, h3⟩, sm, cn⟩ := h
  exact ⟨⟨b, xs, h1.mono e, DwAll.mono e _ _ h2, fun v hv => (h3 v hv).ex e⟩, sm, cn⟩
def spLawBook (K : PySem.W.Frag) (w : World) (C CB : Addr) : Sp := fun vs H Q E => ∃ (a : Addr) (d0 d1 d2 d3 : PyData), vs = [.ref a] ∧ Four K w H a d0 d1 d2 d3 ∧
  (∀ b, bookR d0 d1 d2 d3 = none → Right d0 d1 d2 d3 b → ∀ H' p, BookAt K w H' C p b → Ex H H' → Q (.ref p) H') ∧
  (∀ path, bookR d0 d1 d2 d3 = some path → ∀ (H' : Hp) (dd q : Addr), Ex H H' → H' dd = some (.xd [("path", .ref q)]) → SqT K H' q (path.map V.int) → E (.ref CB) (some dd) H')
def spLawRefused (K : PySem.W.Frag) (w : World) : Sp := fun vs H Q _ => ∃ (a : Addr) (d0 d1 d2 d3 : PyData), vs = [.ref a] ∧ Four K w H a d0 d1 d2 d3 ∧ ∀ l H', Ex H H' → PathV K H' l (bookR d0 d1 d2 d3) → Q (.ref l) H'
section
variable {P : Program} {w : World} {K : PySem.W.Frag} {mg : Str → Option Value} {base : Heap} {f C CB fI fB : Addr} {fd fdI : FuncData}
abbrev n__law_book : List Str := ["_law_parts"]
theorem sc__law_book : FnScope n__law_book ["_law_parts"] (defScope s__law_book) := ⟨rfl, rfl, rfl, by decide +kernel, rfl, by decide +kernel, by decide +kernel⟩
theorem ok_law_book (F : Fun K "_law_book" "_law_book" s__law_book f fd) (Mm : Mk K C fI) (g_Book : mg "Book" = some (.ref C)) (GI : FnOk P w K mg base (L2.CX P w) 6 fI fdI ["self", "sorts", "primitives", "ports", "reasons"] (spBInit K w C CB)) (bI : Binds K fdI ["self", "sorts", "primitives", "ports", "reasons"] []) :
    FnOk P w K mg base (L2.CX P w) 8 f fd ["_law_parts"] (spLawBook K w C CB) := by
  refine F.okX sc__law_book (fun vs H Q E h => ?_) (fun cdv A outer s H vs Q E hr h => ?_)
  · obtain ⟨a, d0, d1, d2, d3, rfl, _⟩ := h
    rfl
  obtain ⟨a, d0, d1, d2, d3, rfl, ⟨⟨b, xs, hs, ha, tf⟩, sm, cn⟩, good, bad⟩ := h
  refine ⟨_, (pss_one (ps_ret (pe_makeSD Mm GI (hr.mono (by omega)) (by rfl) g_Book bI .nil (fun σ => passAt (takes_of rfl rfl rfl rfl) σ) (pa_cons (pe_ix (ix_seqK (K := K)) (pv 0) pe_int (fun _ _ => rfl)) (pa_cons (pe_ix (ix_seqK (K := K)) (pv 0) pe_int (fun _ _ => rfl)) (pa_cons (pe_ix (ix_seqK (K := K)) (pv 0) pe_int (fun _ _ => rfl)) (pa_cons (pe_ix (ix_seqK (K := K)) (pv 0) pe_int (fun _ _ => rfl)) pa_nil))))))), ?_⟩
  cases ha with
  | @cons w0 xs1 _ _ D0 ha =>
  cases ha with
  | @cons w1 xs2 _ _ D1 ha =>
  cases ha with
  | @cons w2 xs3 _ _ D2 ha =>
  cases ha with
  | @cons w3 xs4 _ _ D3 ha =>
  cases ha
  have sm' : (smD d0 && (smD d1 && (smD d2 && (smD d3 && true)))) = true := sm
  rw [Bool.and_eq_true, Bool.and_eq_true, Bool.and_eq_true, Bool.and_eq_true] at sm'
  obtain ⟨s0, s1, s2, s3, _⟩ := sm'
  have cn' : cnt d0 + (cnt d1 + (cnt d2 + (cnt d3 + 0))) ≤ 800 := cn
  have tf1 := tf w1 rfl
  refine ⟨_, rfl, rIx_go (k := 0) hs rfl ⟨_, rfl, rIx_go (k := 1) hs rfl ⟨_, rfl, rIx_go (k := 2) hs rfl ⟨_, rfl, rIx_go (k := 3) hs rfl fun x dx nx nd ne => ?_⟩⟩⟩⟩
  have e1 : Ex H (upd (upd H dx (.own x)) x (.ins C dx [])) := fun b o hb => by
    rw [upd_ne (ne_of_none hb nx), upd_ne (ne_of_none hb nd)]
    exact hb
  have hx : (upd (upd H dx (.own x)) x (.ins C dx [])) x = some (.ins C dx []) := upd_same
  generalize upd (upd H dx (.own x)) x (.ins C dx []) = H1 at e1 hx ⊢
  refine ⟨x, dx, w0, w1, w2, w3, d0, d1, d2, d3, rfl, hx, Dw.mono e1 _ _ D0, Dw.mono e1 _ _ D1, Dw.mono e1 _ _ D2, Dw.mono e1 _ _ D3, ⟨s0, by omega⟩, ⟨s1, by omega⟩, ⟨s2, by omega⟩, ⟨s3, by omega⟩, tf1.ex e1, fun bk e R H2 hB eb => ⟨rfl, ?_⟩, fun path e H2 dd q e2 h1 h2 => bad path e H2 dd q (e1.trans e2) h1 h2⟩
  exact good bk e R H2 x hB fun b o hb => eb b o (e1 b o hb) (ne_of_none hb nx)
abbrev n__law_refused : List Str := ["_law_parts", "error"]
theorem sc__law_refused : FnScope n__law_refused ["_law_parts"] (defScope s__law_refused) := ⟨rfl, rfl, rfl, by decide +kernel, rfl, by decide +kernel, by decide +kernel⟩
theorem ok_law_refused (F : Fun K "_law_refused" "_law_refused" s__law_refused f fd) (B : BBTxt K mg CB fB) (te : PySem.W.exmOne K (.ref CB) (.ref CB) = some true) {f1 : Addr} {fd1 : FuncData} (G__law_book : FnOk P w K mg base (L2.CX P w) 8 f1 fd1 ["_law_parts"] (spLawBook K w C CB)) (m__law_book : mg "_law_book" = some (.ref f1)) (k__law_book : PySem.W.keepIn K (.ref f1) = true) (b__law_book : Binds K fd1 ["_law_parts"] []) :
    FnOk P w K mg base CX0 9 f fd ["_law_parts"] (spLawRefused K w) := by
  refine F.ok sc__law_refused (fun vs H Q E h => ?_) (fun cdv A outer s H vs Q E hr h => ?_)
  · obtain ⟨a, d0, d1, d2, d3, rfl, _⟩ := h
    rfl
  obtain ⟨a, d0, d1, d2, d3, rfl, h4, q⟩ := h
  refine ⟨_, (pss_cons (ps_try_as (i := 1) (c := .ref CB) (tb := (fun W => tDrop (tCallSD (spLawBook K w C CB) [] (WE W) (tCons (tVar 0) tNil)))) (ts := (fun a cls d => tRet (tLst (tCons (tXf a cls d CB "path" (tVar 1)) tNil)))) (Wout := fun _ _ _ _ => False) rfl rfl sc__law_refused.nd rfl rfl ⟨rfl, by decide, Or.inl B.gB⟩ takes0 (fun W pn xe tk _ => pss_one (ps_expr (by exact (pe_callSD G__law_book (hr.mono (by omega)) (by rfl) m__law_book k__law_book b__law_book .nil (fun σ => passAt tk σ) (pa_cons (pv 0) pa_nil))))) (fun a oe cls d pn hz hf => pss_one (ps_ret (pe_lst (pa_cons (by exact (pe_xf B.fx B.no hz hf (pv 1))) pa_nil)))))
  (pss_one (ps_ret (pe_lst pa_nil)))), ?_⟩
  refine ⟨_, rfl, a, d0, d1, d2, d3, rfl, h4, fun bk e R H1 p hB e1 => ?_, fun path e H1 dd t e1 h1 h2 => ⟨true, te, fun _ ae na => ?_, fun z => nomatch z⟩⟩
  · exact ⟨(by show (0 : Nat) ≤ sizeLine; exact Nat.zero_le _), fun L nL => q L _ (e1.trans (Ex.new nL)) (by rw [e]; exact upd_same)⟩
  · exact ⟨_, rfl, rfl, rfl, dd, _, .ref t, rfl, h1, rfl, (by show (1 : Nat) ≤ sizeLine; decide), fun L nL => q L _ (e1.trans (Ex.new nL)) (by rw [e]; exact ⟨t, upd_same, Evl.ex_t (Ex.new nL) h2⟩)⟩
end
end L2.Vf.K01
/-! name = [.. for .. in .. if ..]: the new list is not the module table. -/
namespace L2.Vf
open PySem PySem.Spec PyProof.Rows
section
variable {X : Cx} {elt tg iter : Expr} {ifs : List Expr} {scope : Scope} {own : List (Str × Nat)} {pos : Pos} {wi : TI} {g : TG} {tt : TT} {te : TE}
def tLcN (wi : TI) (g : TG) (tt : TT) (te : TE) (vs : List Nat) : TE := fun σ H Q => wi σ H fun J H1 => ∀ D, H1 D = none → D ≠ sysModules → ∃ W : Nat → Nat → Hp → Prop, (∃ m, W 0 m (upd H1 D (.lst []))) ∧ ∀ i m H, W i m H →
  (J.stop i H ∧ Q (.ref D) H) ∨ (J.go i H ∧ ∃ Nx : Hp → Prop, (∀ H', Nx H' → ∃ m', m' < m ∧ W (i + 1) m' H') ∧ ∀ x H', J.yld i H x H' → g x (wipe σ vs) H' fun σ2 H2 => wipe σ2 vs = wipe σ vs ∧ tt σ2 H2 fun b H3 =>
    if b = true then te σ2 H3 fun y H4 => ∃ acc, H4 D = some (.lst acc) ∧ acc.length < sizeLine ∧ Nx (upd H4 D (.lst (acc ++ [y]))) else Nx H3)
theorem lcN_core {pins : List (Addr × Obj)} {s : Shared} {σ : St} {H : Hp} {Q : VK} {pos' : Pos} {use : Option (Value → Sem Unit)} {Qf : Value → Shared → Prop} (hc : X.calm = true) (hN : X.N.Nodup) (I : Inv X pins σ H s) (hi : PI X tg iter wi) (ok : BlkOk X.N X.env.scope scope own)
    (hg : ∀ (s : Shared) (H : Hp) (C : Addr) (cl : List (Str × Addr)) (fp : List Addr), PG (X.blk s H scope (compEnvC scope cl C X.env) fp) tg g)
    (ht : ∀ (s : Shared) (H : Hp) (C : Addr) (cl : List (Str × Addr)) (fp : List Addr), PTs (X.blk s H scope (compEnvC scope cl C X.env) fp) ifs tt)
    (he : ∀ (s : Shared) (H : Hp) (C : Addr) (cl : List (Str × Addr)) (fp : List Addr), PE (X.blk s H scope (compEnvC scope cl C X.env) fp) elt te)
    (hs : ∀ x, foldedSetIterable iter X.env x = pure x) (h : tLcN wi g tt te (own.map (·.2)) σ H Q)
    (hRR : ∀ D C s' m H', Inv X pins σ H' s' → Q (.ref D) H' → s'.heap.Ns C m → FpOk X pins H' C → compPost (model X.prog X.w) X.A X.xe use Qf (.ref D) C (.ok .next) s') :
    wpAny (model X.prog X.w) X.A (comprehension (.ListComp elt [⟨tg, iter, ifs, 0⟩] scope pos) scope X.env pos' (newList []) false (eval iter X.env) use) Qf X.xe s := by
  have closed : ∀ y ∈ scope.names, y.2 = .free → ∃ c, X.env.cells.lookup y.1 = some c := fun y hy e => (ok.free y hy e).elim (fun z => I.ok.has _ (.inl z)) fun z => I.ok.has _ (.inr z)
  refine wpAny_comprehension_free (use := use) rfl hs (closure_ok closed) ok.kind (fun y hy e => by rw [ok.uniq y hy, e]) (thn (hi.run pins s σ H _ I h) fun _ s1 hx => thn hx fun _ s2 h2 => ?_)
  obtain ⟨it, fp, tn, J, H2, rfl, I2, T, st2, f2, q⟩ := h2
  refine wpAny_newObj_type (newEnv_comp ?_) (by show 0 ≤ sizeLine; decide)
  -- the list that is new
  have nD : H2 s2.heap.objs.size = none := I2.hok.fresh (Nat.le_refl _)
  have nS : s2.heap.objs.size ≠ sysModules := Nat.ne_of_gt I2.big
  obtain ⟨W, ⟨m0, w0⟩, turn⟩ := q _ nD nS
  have old : ∀ {b : Addr} {o : Obj}, s2.heap.get? b = some o → (s2.heap.push { cls := .type "list", data := .seq ([] : List Value).toArray }).get? b = some o := fun e => Heap.get?_push_of_some _ e
  have I3 : Inv X pins σ (upd H2 s2.heap.objs.size (.lst [])) { s2 with heap := s2.heap.push { cls := .type "list", data := .seq ([] : List Value).toArray } } := I2.laid (t' := s2.toks) (fun _ _ e => old e) (Nat.le_refl _) ⟨Nat.zero_le _, [], 0, .nil, Heap.get?_push_size _ rfl⟩
  have below : ∀ b ∈ fp, b < s2.heap.objs.size := fun b hb => by
    obtain ⟨o, e, _⟩ := T.obj _ _ st2 b hb
    exact Heap.lt_size e
  generalize hD : s2.heap.objs.size = D at *
  have big1 : (s2.heap.push { cls := .type "list", data := .seq ([] : List Value).toArray }).objs.size = D + 1 := by rw [Heap.size_push, hD]
  have f3 : ∀ b ∈ fp, FpOk X pins (upd H2 D (.lst [])) b ∧ b < (s2.heap.push { cls := .type "list", data := .seq ([] : List Value).toArray }).objs.size := fun b hb => by
    have lt := below b hb
    have f := f2 b hb
    exact ⟨⟨by rw [upd_ne (Nat.ne_of_lt lt)]; exact f.1, f.2⟩, by rw [big1]; exact Nat.lt_succ_of_lt lt⟩
  have st3 : tn 0 (s2.heap.push { cls := .type "list", data := .seq ([] : List Value).toArray }) := T.keep _ _ _ st2 fun b _ o e => old e
  generalize hs3 : ({ s2 with heap := s2.heap.push { cls := .type "list", data := .seq ([] : List Value).toArray } } : Shared) = s3 at I3
  have h3 : s3.heap = s2.heap.push { cls := .type "list", data := .seq ([] : List Value).toArray } := by rw [← hs3]
  rw [← h3] at f3 st3
  have I4 := block_start I3 ok hN f3
  have pg := hg s3 (upd H2 D (.lst [])) s3.heap.objs.size (cellsFrom (s3.heap.objs.size + 1) scope.names (cloFrom X.env.cells scope.names [])) fp
  have pt := ht s3 (upd H2 D (.lst [])) s3.heap.objs.size (cellsFrom (s3.heap.objs.size + 1) scope.names (cloFrom X.env.cells scope.names [])) fp
  have pe := he s3 (upd H2 D (.lst [])) s3.heap.objs.size (cellsFrom (s3.heap.objs.size + 1) scope.names (cloFrom X.env.cells scope.names [])) fp
  show codeAny _ _ (.compStart (.ListComp elt [⟨tg, iter, ifs, 0⟩] scope pos) 0 (.ref it) (.ref D) (compEnvC scope (cellsFrom (s3.heap.objs.size + 1) scope.names (cloFrom X.env.cells scope.names [])) s3.heap.objs.size X.env))
    (compPost (model X.prog X.w) X.A X.xe use Qf (.ref D) s3.heap.objs.size) { s3 with heap := pushCells (s3.heap.push { cls := .type "dict", data := .dict #[] }) scope.names }
  have st4 : tn 0 ({ s3 with heap := pushCells (s3.heap.push { cls := .type "dict", data := .dict #[] }) scope.names } : Shared).heap := T.keep _ _ _ st3 fun b _ o e => pushCells_keeps _ _ _ _ (Heap.get?_push_of_some _ e)
  have free0 : ∀ b ∈ fp, (upd H2 D (.lst [])) b = none := fun b hb => (f3 b hb).1.1
  generalize hce : compEnvC scope (cellsFrom (s3.heap.objs.size + 1) scope.names (cloFrom X.env.cells scope.names [])) s3.heap.objs.size X.env = ce at I4 pg pt pe ⊢
  have lo : ce.locals = s3.heap.objs.size := by rw [← hce]; rfl
  generalize upd H2 D (.lst []) = H3 at I3 I4 pg pt pe w0 free0 f3
  generalize ({ s3 with heap := pushCells (s3.heap.push { cls := .type "dict", data := .dict #[] }) scope.names } : Shared) = s4 at I4 st4 ⊢
  have fps : ∀ {σ' : St} {H' : Hp} {s' : Shared}, Inv (X.blk s3 H3 scope ce fp) [] σ' H' s' → (∀ b ∈ fp, H' b = none) → ∀ b ∈ fp, FpOk (X.blk s3 H3 scope ce fp) [] H' b := fun I' n b hb =>
    ⟨n b hb, (I'.ok.exf b hb).1, I'.ok.exfs b hb, .inl hb, fun x c e => (I'.ok.exf b hb).2 x c e, fun p hp => by cases hp⟩
  have loop : codeAny (model X.prog X.w) X.A (.compLoop (.ListComp elt [⟨tg, iter, ifs, 0⟩] scope pos) 0 (.ref it) (.ref D) ce) (compPost (model X.prog X.w) X.A X.xe use Qf (.ref D) s3.heap.objs.size) s4 := by
    refine compLoop_any (fun n s' => ∃ i H', Inv (X.blk s3 H3 scope ce fp) [] (wipe σ (own.map (·.2))) H' s' ∧ tn i s'.heap ∧ (∀ b ∈ fp, H' b = none) ∧ W i n H') ?_ m0 ⟨0, H3, I4, st4, free0, w0⟩
    rintro n s5 ⟨i, H5, I5, st5, n5, w5⟩
    rcases turn i n H5 w5 with ⟨stop, qq⟩ | ⟨go, Nx, less, step⟩
    · refine thnF (T.done (X.blk s3 H3 scope ce fp) rfl rfl rfl hc i [] s5 _ H5 (fun _ _ => False) I5 (fps I5 n5) st5 stop) fun r s6 ⟨hr, I6⟩ => ?_
      subst hr
      have out : Inv X pins σ H5 s6 := I3.call' (ch := fp) I6.os I6.base I6.hok I6.bare fun b hb => ⟨(f3 b hb).1.2.2.2.1, (f3 b hb).1.2.1, (f3 b hb).1.2.2.2.2.1, (f3 b hb).1.2.2.2.2.2⟩
      have nL : H5 s3.heap.objs.size = none := by
        rw [← lo]
        exact I6.free
      obtain ⟨m, hn, _⟩ := I6.loc
      have hn' : s6.heap.Ns ce.locals m := hn
      rw [lo] at hn'
      exact hRR _ _ s6 m H5 out qq hn' (I3.fpOk (Nat.le_refl _) nL)
    · refine thnF (T.item (X.blk s3 H3 scope ce fp) rfl rfl rfl hc i [] s5 _ H5 (fun _ _ => False) I5 (fps I5 n5) st5 go) fun r s6 ⟨u, hr, h6⟩ => ?_
      subst hr
      refine thnF h6 fun _ s7 ⟨x, H7, I7, r7, y7, st7, n7⟩ => ?_
      refine thnF (pg.run _ s7 _ H7 x u _ (I7.pinned (fps I7 n7) (T.obj _ _ st7)) r7 (step x H7 y7)) fun _ s8 ⟨σ8, H8, I8, hw8, q8⟩ => ?_
      refine thnF (pt.run _ s8 σ8 H8 _ I8 q8) fun b s9 ⟨H9, I9, q9⟩ => ?_
      have ends : ∀ {s' : Shared} {H' : Hp}, Inv (X.blk s3 H3 scope ce fp) ([] ++ pinsAt fp s7.heap) σ8 H' s' → Nx H' → ∃ m, m < n ∧ ∃ i H', Inv (X.blk s3 H3 scope ce fp) [] (wipe σ (own.map (·.2))) H' s' ∧ tn i s'.heap ∧ (∀ b ∈ fp, H' b = none) ∧ W i m H' := fun {s' H'} I' nx => by
        obtain ⟨m', lt, w'⟩ := less H' nx
        have pinned : ∀ b ∈ fp, ∀ o, s7.heap.get? b = some o → s'.heap.get? b = some o ∧ H' b = none := fun b hb o e =>
          have z := I'.pin (b, o) (List.mem_append_right _ (List.mem_append_right _ (mem_pinsAt hb e)))
          ⟨z.1, z.2.1⟩
        refine ⟨m', lt, i + 1, H', (I'.unpinned (pins := [])).weak (by rw [← hw8, wipe_length]) (fun j v e => ?_), T.keep _ _ _ st7 fun b hb o e => (pinned b hb o e).1, fun b hb => ?_, w'⟩
        · rw [← hw8] at e
          exact (wipe_some e).1
        · obtain ⟨o, e, _⟩ := T.obj _ _ st7 b hb
          exact (pinned b hb o e).2
      cases b with
      | false =>
        rw [if_neg Bool.false_ne_true] at q9 ⊢
        exact ends I9 q9
      | true =>
        rw [if_pos rfl] at q9 ⊢
        refine thnF (pe.run _ s9 σ8 H9 _ I9 q9) fun z s10 ⟨yv, H10, I10, r10, acc, ow, kl, nx⟩ => ?_
        exact app_ok (X := X.blk s3 H3 scope ce fp) I10 ow kl r10 fun s11 I11 => ends I11 nx
  exact codeAny_compStart_list loop (T.self X.A 0 _ _ _ st4 loop)
/-- put into a name of the block's own def at once -/
theorem ps_setLcN {i : Nat} {y : Str} {py spos : Pos} (hc : X.calm = true) (hN : X.N.Nodup) (hy : X.N[i]? = some y) (hyl : X.env.scope.names.lookup y = some .local)
    (hsw : swapsWith (.ListComp elt [⟨tg, iter, ifs, 0⟩] scope pos) (some (.Name y py)) spos.line X.env = pure true) (hi : PI X tg iter wi) (ok : BlkOk X.N X.env.scope scope own)
    (hg : ∀ (s : Shared) (H : Hp) (C : Addr) (cl : List (Str × Addr)) (fp : List Addr), PG (X.blk s H scope (compEnvC scope cl C X.env) fp) tg g)
    (ht : ∀ (s : Shared) (H : Hp) (C : Addr) (cl : List (Str × Addr)) (fp : List Addr), PTs (X.blk s H scope (compEnvC scope cl C X.env) fp) ifs tt)
    (he : ∀ (s : Shared) (H : Hp) (C : Addr) (cl : List (Str × Addr)) (fp : List Addr), PE (X.blk s H scope (compEnvC scope cl C X.env) fp) elt te)
    (hs : ∀ x, foldedSetIterable iter X.env x = pure x := by intro _; rfl) :
    PS X (.Assign [.Name y py] (.ListComp elt [⟨tg, iter, ifs, 0⟩] scope pos) spos) (tAsg (tLcN wi g tt te (own.map (·.2))) (gName i)) := by
  refine ⟨fun pins s σ H D I h => ?_⟩
  rw [exec_Assign_Name_used _ _ _ _ hsw]
  refine wpAny_bind (wpAny_standAt (wpAny_bind ?_))
  show wpAny _ X.A (do let _ ← comprehension (.ListComp elt [⟨tg, iter, ifs, 0⟩] scope pos) scope X.env (firstIterPos [⟨tg, iter, ifs, 0⟩] pos) (newList []) false (eval iter X.env) (some (assign (.Name y py) X.env))) _ _ s
  have h' : tLcN wi g tt te (own.map (·.2)) σ H (fun x H1 => gName i x σ H1 D.nx) := h
  refine wpAny_bind (thn (lcN_core (Qf := fun _ s' => SP X pins D .next s') hc hN I hi ok hg ht he hs h' fun L C s' m H' I' q hn f => ?_) fun _ s' hq => wpAny_pure (wpAny_pure hq))
  show wpAny _ _ (assign (.Name y py) X.env (.ref L)) _ _ _
  refine wpAny_assign_Name (store_ok2 (v := V.ref L) I' hN hy (.inl hyl) rfl (fun s2 I2 ⟨a, sb, ha⟩ => ?_) (.inr hyl))
  obtain ⟨f0, f1, f2, f3, f4, f5⟩ := f
  have haC : C ≠ a := ha.elim (fun z => z ▸ f1) fun z e => f4 y a z e.symm
  refine ⟨m, hn.sameBut sb haC, fun h3 sb3 => ?_⟩
  exact ⟨_, H', I2.turned (t' := s2.toks) (fun b o hb e => (sb3.2 b hb).trans e) f0 f1 f3 f4 f5, q⟩
end
end L2.Vf
/-! The four parts of a drawn book. -/
namespace L2.Vf.K01
open PySem PySem.Spec PyProof.Rows
open Evl (Ex Ev EvT EvL EvA)
abbrev s__law_book_parts : Stmt := top 37
/-- a book that is drawn -/
structure Drawn (b : Bk) : Prop where
  n0 : (b.sorts.map (·.1)).Nodup
  y0 : ∀ x ∈ b.sorts, nameD (.str x.1) = true ∧ strSm x.1 = true
  w0 : ∀ x ∈ b.sorts, x.2.Nodup ∧ 1 ≤ x.2.length ∧ x.2.length ≤ 4 ∧ ∀ y ∈ x.2, wordT y = true ∧ strSm y = true
  l0 : b.sorts.length ≤ 3
  n1 : (b.prims.map (·.1)).Nodup
  y1 : ∀ x ∈ b.prims, nameD (.str x.1) = true ∧ strSm x.1 = true ∧ x.2 < 3
  l1 : b.prims.length ≤ 4
  n2 : b.ports.Nodup
  y2 : ∀ x ∈ b.ports, nameD (.str x) = true ∧ strSm x = true
  l2 : b.ports.length ≤ 3
  n3 : b.reasons.Nodup
  y3 : ∀ x ∈ b.reasons, nameD (.str x) = true ∧ strSm x = true
  l3 : b.reasons.length ≤ 4
  z0 : ∀ x ∈ b.sorts, x.1 ≠ ("zz" : Str)
  z1 : ∀ x ∈ b.prims, x.1 ≠ ("zz" : Str)
def dS (b : Bk) : PyData := .list (b.sorts.map sortD)
def dP (b : Bk) : PyData := .list (b.prims.map primD)
def dO (b : Bk) : PyData := .list (b.ports.map .str)
def dR (b : Bk) : PyData := .list (b.reasons.map .str)
theorem fresh_but {p c l : Addr} {H H1 : Hp} (b : But [p, c] H H1) (S1 : Kn [p, c] H1) (n : H1 l = none) : H l = none := by
  cases h : H l with
  | none => rfl
  | some o =>
    have z := b.get (S1.off n) h
    rw [n] at z
    cases z
def goodW (y : Str) : Bool := wordT y && strSm y
def goodN (y : Str) : Bool := nameD (.str y) && strSm y
def notZ (y : Str) : Bool := decide (y ≠ ("zz" : Str))
theorem eight_z : eight.all notZ = true := by decide +kernel
theorem eight_n : eight.all goodN = true := by decide +kernel
theorem eight_w : eight.all goodW = true := by decide +kernel
theorem eight_d : eight.Nodup := by decide +kernel
section
variable {K : PySem.W.Frag} {w : World} {σ : St} {H : Hp} {Q : VK} {p c : Addr}
theorem pool_go {xs : List Str} {ta : TA} (h0 : σ[0]? = some (some (.ref p))) (S : Src2 H p c) (hta : ∀ (H1 : Hp) (Q' : List V → Hp → Prop), Q' (xs.map V.str) H1 → ta σ H1 Q') (nd : xs.Nodup) (l8 : xs.length ≤ 8)
    (q : ∀ l (ys : List Str) H', Src2 H' p c → But [p, c] H H' → SqL K (hide [p, c] H') l (ys.map V.str) → ys.Nodup → ys.length = xs.length → (∀ y ∈ ys, y ∈ xs ∨ y ∈ eight) → Q (.ref l) H') :
    tCall (spPool K) [] E0 (tCons (tVar 0) (tCons (tLstN ta) tNil)) σ H Q := by
  refine ⟨_, h0, hta H _ ⟨by rw [List.length_map, sizeLine_eq]; omega, fun r nr mr => ?_⟩⟩
  have e1 := Ex.new (o := HO.lst (xs.map V.str)) nr
  refine ⟨p, c, r, xs, rfl, S.ex e1, SqL.of (hide_new S.kn nr), l8, fun l ys H' S' b' hl hy => q l ys H' S' ((But.of e1).trans b') hl ?_ ?_ ?_⟩
  · rcases hy with rfl | rfl
    · exact nd
    · exact eight_d.sublist (List.take_sublist _ _)
  · rcases hy with rfl | rfl
    · rfl
    · rw [List.length_take]
      exact Nat.min_eq_left l8
  · intro y hy'
    rcases hy with rfl | rfl
    · exact .inl hy'
    · exact .inr (List.mem_of_mem_take hy')
theorem some_go {xs : List Str} {ta : TA} {lo hi : Nat} (h0 : σ[0]? = some (some (.ref p))) (S : Src2 H p c) (hta : ∀ (H1 : Hp) (Q' : List V → Hp → Prop), Q' (xs.map V.str) H1 → ta σ H1 Q') (nd : xs.Nodup) (l8 : xs.length ≤ 8) (hlo : lo ≤ hi) (hhi : hi ≤ xs.length)
    (q : ∀ l (ys : List Str) H', Src2 H' p c → But [p, c] H H' → H l = none → l ≠ sysModules → H' l = some (.lst (ys.map V.str)) → ys.Nodup → (∀ y ∈ ys, y ∈ xs ∨ y ∈ eight) → lo ≤ ys.length → ys.length ≤ hi → Q (.ref l) H') :
    tCall (spSome K) [] E0 (tCons (tVar 0) (tCons (tCall (spPool K) [] E0 (tCons (tVar 0) (tCons (tLstN ta) tNil))) (tCons (tC (.int (lo : Int))) (tCons (tC (.int (hi : Int))) tNil)))) σ H Q := by
  refine ⟨_, h0, pool_go h0 S hta nd l8 fun l1 ys1 H1 S1 b1 hl1 n1 le1 s1 => ⟨p, c, l1, ys1, lo, hi, rfl, S1, hl1, n1, hlo, by omega, by omega, fun l ys H2 S2 b2 nl ml hl ny sub h1 h2 => ?_⟩⟩
  exact q l ys H2 S2 (b1.trans b2) (fresh_but b1 S1.kn nl) ml hl ny (fun y hy => s1 y (sub y hy)) h1 h2
theorem newTS {Z : List Addr} (S : Kn Z H) {r : Addr} {its : List Value} {zs : List V} {fs : List PyData} (n : H r = none) (hv : Vals zs its) (d : DfAll K w (hide Z H) zs fs) :
    Df K w (hide Z (upd H r (.frz (tupO its) (.tup zs)))) (.ref r) (.tuple fs) := .tup ⟨its, hide_new S n, hv⟩ (DfAll.ex (But.of (S := Z) (Ex.new n)) d)
theorem hide_inS {Z : List Addr} {r : Addr} {o : HO} (h : r ∈ Z) : hide Z (upd H r o) = hide Z H := by
  funext b
  unfold hide
  by_cases z : b ∈ Z
  · rw [if_pos z, if_pos z]
  · rw [if_neg z, if_neg z, upd_ne (fun y => z (by rw [y]; exact h))]
theorem hide_less {Z : List Addr} {r : Addr} : Ex (hide (r :: Z) H) (hide Z H) := fun b o h => by
  unfold hide at h ⊢
  by_cases z : b ∈ r :: Z
  · rw [if_pos z] at h
    cases h
  · rw [if_neg z] at h
    rw [if_neg (fun y => z (List.mem_cons_of_mem _ y))]
    exact h
theorem kn_cons {Z : List Addr} {r : Addr} {o : HO} (k : Kn Z H) (h : H r = some o) : Kn (r :: Z) H := fun b hb => by
  rcases List.mem_cons.mp hb with e | hb
  · rw [e]; exact ⟨o, h⟩
  · exact k b hb
theorem but_cons {Z : List Addr} {r : Addr} {H' : Hp} (b : But Z H H') : But (r :: Z) H H' := But.by fun x o hx h => b.get (fun y => hx (List.mem_cons_of_mem _ y)) h
theorem df_strs : ∀ {ys : List Str}, DfAll K w H (ys.map V.str) (ys.map PyData.str)
  | [] => .nil
  | y :: ys => .cons (.str y) df_strs
end
theorem good_of {f : Str → Bool} {xs ys : List Str} (h : ∀ y ∈ ys, y ∈ xs ∨ y ∈ eight) (hx : xs.all f = true) (h8 : eight.all f = true) : ∀ y ∈ ys, f y = true := fun y hy => by
  rcases h y hy with z | z
  · exact List.all_eq_true.mp hx y z
  · exact List.all_eq_true.mp h8 y z
def spBookParts (K : PySem.W.Frag) (w : World) : Sp := fun vs H Q _ => ∃ (p c : Addr), vs = [.ref p] ∧ Src2 H p c ∧ ∀ a b (xs : List Addr) H', Src2 H' p c → But [p, c] H H' → Drawn b → (∀ x ∈ xs, H x = none ∧ x ≠ a) → a ≠ sysModules → (hide [p, c] H') a = some (.lst (xs.map V.ref)) → DfAll K w (hide [p, c] H') (xs.map V.ref) [dS b, dP b, dO b, dR b] → Q (.ref a) H'
section
variable {P : Program} {w : World} {K : PySem.W.Frag} {mg : Str → Option Value} {base : Heap} {f : Addr} {fd : FuncData}
abbrev n__law_book_parts : List Str := ["_law_source_here", "_law_words", "_law_names", "_law_sorts", "_law_primitives", "_law_ports", "_law_name"]
theorem sc__law_book_parts : FnScope n__law_book_parts ["_law_source_here"] (defScope s__law_book_parts) := ⟨rfl, rfl, rfl, by decide +kernel, rfl, by decide +kernel, by decide +kernel⟩
theorem ok_book_parts (F : Fun K "_law_book_parts" "_law_book_parts" s__law_book_parts f fd) (m_tuple : mg "tuple" = none)
    (hp : Has P w K mg base 1 "_law_pick" ["_law_source_here", "_law_many"] spPick2) (ho : Has P w K mg base 2 "_law_some" ["_law_source_here", "_law_pool_here", "_law_least", "_law_most"] (spSome K)) (hl : Has P w K mg base 2 "_law_pool" ["_law_source_here", "_law_some_here"] (spPool K)) : FnOk P w K mg base CX0 3 f fd ["_law_source_here"] (spBookParts K w) := by
  obtain ⟨f1, fd1, G__law_pick, m__law_pick, k__law_pick, b__law_pick⟩ := hp
  obtain ⟨f2, fd2, G__law_some, m__law_some, k__law_some, b__law_some⟩ := ho
  obtain ⟨f3, fd3, G__law_pool, m__law_pool, k__law_pool, b__law_pool⟩ := hl
  refine F.ok sc__law_book_parts (fun vs H Q E h => ?_) (fun cdv A outer s H vs Q E hr h => ?_)
  · obtain ⟨p, c, rfl, _⟩ := h
    rfl
  obtain ⟨p, c, rfl, hS, q⟩ := h
  refine ⟨_, (pss_cons (ps_set (i := 1) sc__law_book_parts.nd rfl (.inr rfl) (pe_call G__law_pool (hr.mono (by omega)) (by rfl) m__law_pool k__law_pool b__law_pool .nil pass0 (pa_cons (pv 0) (pa_cons (pe_lstN (pa_cons pe_str (pa_cons pe_str (pa_cons pe_str (pa_cons pe_str (pa_cons pe_str (pa_cons pe_str (pa_cons pe_str (pa_cons pe_str pa_nil))))))))) pa_nil))))
  (pss_cons (ps_set (i := 2) sc__law_book_parts.nd rfl (.inl rfl) (pe_call G__law_some (hr.mono (by omega)) (by rfl) m__law_some k__law_some b__law_some .nil pass0 (pa_cons (pv 0) (pa_cons (pe_call G__law_pool (hr.mono (by omega)) (by rfl) m__law_pool k__law_pool b__law_pool .nil pass0 (pa_cons (pv 0) (pa_cons (pe_lstN (pa_cons pe_str (pa_cons pe_str (pa_cons pe_str pa_nil)))) pa_nil))) (pa_cons pe_int (pa_cons pe_int pa_nil))))))
  (pss_cons (ps_setLcN (i := 3) (own := [("_law_name", 6)]) (g := gName 6) (tt := _) rfl sc__law_book_parts.nd rfl rfl (sw_true rfl rfl rfl (by decide +kernel)) (pi_list (pv 2)) (blkOk_by (N := n__law_book_parts) (sc := defScope s__law_book_parts) (by decide +kernel)) (fun _ _ _ _ _ => (pg_name (i := 6) sc__law_book_parts.nd rfl (.inl rfl))) (fun _ _ _ _ _ => pts_nil) (fun _ _ _ _ _ => (pe_tupF (pa_cons (pv 6) (pa_cons (pe_callTy (call_tupF (K := K)) (by rfl) m_tuple (by decide +kernel) (pa_cons (pe_call G__law_some (hr.mono (by omega)) (by rfl) m__law_some k__law_some b__law_some .nil pass0 (pa_cons (pv 0) (pa_cons (pv 1) (pa_cons pe_int (pa_cons pe_int pa_nil))))) pa_nil)) pa_nil)))))
  (pss_cons (ps_set (i := 2) sc__law_book_parts.nd rfl (.inl rfl) (pe_call G__law_some (hr.mono (by omega)) (by rfl) m__law_some k__law_some b__law_some .nil pass0 (pa_cons (pv 0) (pa_cons (pe_call G__law_pool (hr.mono (by omega)) (by rfl) m__law_pool k__law_pool b__law_pool .nil pass0 (pa_cons (pv 0) (pa_cons (pe_lstN (pa_cons pe_str (pa_cons pe_str (pa_cons pe_str (pa_cons pe_str pa_nil))))) pa_nil))) (pa_cons pe_int (pa_cons pe_int pa_nil))))))
  (pss_cons (ps_setLcN (i := 4) (own := [("_law_name", 6)]) (g := gName 6) (tt := _) rfl sc__law_book_parts.nd rfl rfl (sw_true rfl rfl rfl (by decide +kernel)) (pi_list (pv 2)) (blkOk_by (N := n__law_book_parts) (sc := defScope s__law_book_parts) (by decide +kernel)) (fun _ _ _ _ _ => (pg_name (i := 6) sc__law_book_parts.nd rfl (.inl rfl))) (fun _ _ _ _ _ => pts_nil) (fun _ _ _ _ _ => (pe_tupF (pa_cons (pv 6) (pa_cons (pe_call G__law_pick (hr.mono (by omega)) (by rfl) m__law_pick k__law_pick b__law_pick .nil pass0 (pa_cons (pv 0) (pa_cons pe_int pa_nil))) pa_nil)))))
  (pss_cons (ps_set (i := 5) sc__law_book_parts.nd rfl (.inl rfl) (pe_call G__law_some (hr.mono (by omega)) (by rfl) m__law_some k__law_some b__law_some .nil pass0 (pa_cons (pv 0) (pa_cons (pe_call G__law_pool (hr.mono (by omega)) (by rfl) m__law_pool k__law_pool b__law_pool .nil pass0 (pa_cons (pv 0) (pa_cons (pe_lstN (pa_cons pe_str (pa_cons pe_str (pa_cons pe_str pa_nil)))) pa_nil))) (pa_cons pe_int (pa_cons pe_int pa_nil))))))
  (pss_one (ps_ret (pe_lstN (pa_cons (pv 3) (pa_cons (pv 4) (pa_cons (pv 5) (pa_cons (pe_call G__law_some (hr.mono (by omega)) (by rfl) m__law_some k__law_some b__law_some .nil pass0 (pa_cons (pv 0) (pa_cons (pe_call G__law_pool (hr.mono (by omega)) (by rfl) m__law_pool k__law_pool b__law_pool .nil pass0 (pa_cons (pv 0) (pa_cons (pe_lstN (pa_cons pe_str (pa_cons pe_str (pa_cons pe_str (pa_cons pe_str pa_nil))))) pa_nil))) (pa_cons pe_int (pa_cons pe_int pa_nil))))) pa_nil))))))))))))), ?_⟩
  have sz : sizeLine = 16777216 := sizeLine_eq
  refine pool_go (xs := ["red", "blue", "on", "off", "self", "gone", "w0", "abcdefghijkl"]) rfl hS (fun H1 Q' y => y) (by decide +kernel) (by decide) fun wl ws H1 S1 b1 hwl nws lws sws => ?_
  have gw := good_of sws (f := goodW) (by decide +kernel) eight_w
  refine some_go (xs := ["c", "d", "sort"]) (lo := 0) (hi := 3) rfl S1 (fun H1 Q' y => y) (by decide +kernel) (by decide) (by decide) (by decide) fun nl ns H2 S2 b2 nnl _ hnl nns sns _ l3 => ?_
  have gn := good_of sns (f := goodN) (by decide +kernel) eight_n
  have gnz := good_of sns (f := notZ) (by decide +kernel) eight_z
  have nlS := S1.kn.off nnl
  -- the sorts
  refine ⟨_, rfl, nl, rfl, ⟨_, SqL.of hnl⟩, fun D nD mD => ?_⟩
  have DS := S2.kn.off nD
  refine lc_it (walk_list (K := K) (a := nl) (xs := ns.map V.str)) (fun i H' => Src2 H' p c ∧ But [p, c] H2 H' ∧ ∃ (vs : List V) (rows : List (Str × List Str)), H' D = some (.lst vs) ∧ DfAll K w (hide [D, p, c] H') vs (rows.map sortD) ∧ rows.map (·.1) = ns.take i ∧
      ∀ x ∈ rows, x.2.Nodup ∧ 1 ≤ x.2.length ∧ x.2.length ≤ 4 ∧ ∀ y ∈ x.2, goodW y = true)
    ⟨S2.ex (Ex.new nD), But.of (Ex.new nD), [], [], upd_same, .nil, rfl, fun x z => by cases z⟩ (fun i H' _ h => SqL.of (h.2.1.get (nlS) hnl)) ?_ ?_
  · rintro i x _ H3 hi ⟨S3, b3, vs, rows, hD, da, hr, hg⟩ ⟨rfl, hx⟩
    rw [List.length_map] at hi
    obtain ⟨y, hy⟩ : ∃ y, ns[i]? = some y := ⟨_, List.getElem?_eq_getElem hi⟩
    rw [List.getElem?_map, hy] at hx
    obtain rfl := Option.some.inj hx
    have lrows : rows.length = i := by
      have := congrArg List.length hr
      rw [List.length_map, List.length_take] at this
      omega
    refine ⟨rfl, _, rfl, _, rfl, _, rfl, p, c, wl, ws, 1, 4, rfl, S3, Evl.ex_l ((b2).trans b3) hwl, nws, by decide, by rw [lws]; decide, by rw [lws]; decide, fun l ys H4 S4 b4 nl4 ml4 hl4 ny sub h1 h2 => ⟨l, _, rfl, .inl ⟨SqL.of hl4, fun t its hv nt => ⟨(by show (2 : Nat) ≤ sizeLine; omega), fun t2 its2 hv2 nt2 => ?_⟩⟩⟩⟩
    have x5 := Ex.new (o := HO.frz (tupO its) (.tup (ys.map V.str))) nt
    have x6 := Ex.new (o := HO.frz (tupO its2) (.tup [V.str y, V.ref t])) nt2
    have b5 : But [p, c] H3 (upd (upd H4 t (.frz (tupO its) (.tup (ys.map V.str)))) t2 (.frz (tupO its2) (.tup [V.str y, V.ref t]))) := b4.trans (But.of (x5.trans x6))
    have S6 : Src2 (upd (upd H4 t (.frz (tupO its) (.tup (ys.map V.str)))) t2 (.frz (tupO its2) (.tup [V.str y, V.ref t]))) p c := S4.ex (x5.trans x6)
    have hD4 := b4.get DS hD
    have k4 : Kn [D, p, c] H4 := kn_cons S4.kn hD4
    have row := newTS (K := K) (w := w) (k4.ex x5) nt2 hv2 (.cons (.str y) (.cons (newTS k4 nt hv (df_strs (ys := ys))) .nil))
    generalize (upd (upd H4 t (.frz (tupO its) (.tup (ys.map V.str)))) t2 (.frz (tupO its2) (.tup [V.str y, V.ref t]))) = H6 at b5 S6 row ⊢
    have hD6 := b5.get DS hD
    have lvs := da.len
    refine ⟨vs, hD6, by rw [lvs, List.length_map]; omega, S6.off DS, (b3.trans b5).mut nD, vs ++ [V.ref t2], rows ++ [(y, ys)], upd_same, ?_, ?_, ?_⟩
    · rw [hide_inS List.mem_cons_self, List.map_append]
      exact (DfAll.ex (but_cons b5) da).app (.cons row .nil)
    · rw [List.map_append, hr, List.take_succ, hy]
      rfl
    · intro x hx
      rcases List.mem_append.mp hx with z | z
      · exact hg x z
      · rw [List.mem_singleton.mp z]
        exact ⟨ny, h1, h2, fun y' hy' => gw y' (sub y' hy')⟩
  rintro H3 ⟨S3, b3, vs, rows, hD3, da3, hr3, hg3⟩
  rw [List.length_map, List.take_length] at hr3
  have da3' := DfAll.ex hide_less da3
  -- the primitives
  refine some_go (xs := ["f", "g", "h", "prim"]) (lo := 0) (hi := 4) rfl S3 (fun H1 Q' y => y) (by decide +kernel) (by decide) (by decide) (by decide) fun ml ms H4 S4 b4 nml _ hml nms sms _ m4 => ?_
  have gm := good_of sms (f := goodN) (by decide +kernel) eight_n
  have gmz := good_of sms (f := notZ) (by decide +kernel) eight_z
  have mlS := S3.kn.off nml
  refine ⟨_, rfl, ml, rfl, ⟨_, SqL.of hml⟩, fun D2 nD2 mD2 => ?_⟩
  have D2S := S4.kn.off nD2
  refine lc_it (walk_list (K := K) (a := ml) (xs := ms.map V.str)) (fun i H' => Src2 H' p c ∧ But [p, c] H4 H' ∧ ∃ (vs : List V) (rows : List (Str × Nat)), H' D2 = some (.lst vs) ∧ DfAll K w (hide [D2, p, c] H') vs (rows.map primD) ∧ rows.map (·.1) = ms.take i ∧ ∀ x ∈ rows, x.2 < 3)
    ⟨S4.ex (Ex.new nD2), But.of (Ex.new nD2), [], [], upd_same, .nil, rfl, fun x z => by cases z⟩ (fun i H' _ h => SqL.of (h.2.1.get mlS hml)) ?_ ?_
  · rintro i x _ H5 hi ⟨S5, b5, vs5, rows5, hD5, da5, hr5, hg5⟩ ⟨rfl, hx⟩
    rw [List.length_map] at hi
    obtain ⟨y, hy⟩ : ∃ y, ms[i]? = some y := ⟨_, List.getElem?_eq_getElem hi⟩
    rw [List.getElem?_map, hy] at hx
    obtain rfl := Option.some.inj hx
    have lrows : rows5.length = i := by
      have := congrArg List.length hr5
      rw [List.length_map, List.length_take] at this
      omega
    refine ⟨rfl, _, rfl, _, rfl, p, c, 3, rfl, S5, by decide, by decide, fun r H6 r0 r3 S6 b6 => ⟨(by show (2 : Nat) ≤ sizeLine; omega), fun t its hv nt => ?_⟩⟩
    obtain ⟨r, rfl⟩ := Int.eq_ofNat_of_zero_le r0
    have x7 := Ex.new (o := HO.frz (tupO its) (.tup [V.str y, V.int (r : Int)])) nt
    have hD6 := b6.get D2S hD5
    have row := newTS (K := K) (w := w) (kn_cons S6.kn hD6) nt hv (.cons (.str y) (.cons (.int _) .nil))
    have b7 := b6.trans (But.of (S := [p, c]) x7)
    have S7 := S6.ex x7
    generalize upd H6 t (.frz (tupO its) (.tup [V.str y, V.int (r : Int)])) = H7 at b7 S7 row ⊢
    have hD7 := b7.get D2S hD5
    have lvs := da5.len
    refine ⟨vs5, hD7, by rw [lvs, List.length_map]; omega, S7.off D2S, (b5.trans b7).mut nD2, vs5 ++ [V.ref t], rows5 ++ [(y, r)], upd_same, ?_, ?_, ?_⟩
    · rw [hide_inS List.mem_cons_self, List.map_append]
      exact (DfAll.ex (but_cons b7) da5).app (.cons row .nil)
    · rw [List.map_append, hr5, List.take_succ, hy]
      rfl
    · intro x hx
      rcases List.mem_append.mp hx with z | z
      · exact hg5 x z
      · rw [List.mem_singleton.mp z]
        show r < 3
        omega
  rintro H5 ⟨S5, b5, vs5, rows5, hD5, da5, hr5, hg5⟩
  rw [List.length_map, List.take_length] at hr5
  have da5' := DfAll.ex hide_less da5
  -- ports and reasons
  refine some_go (xs := ["main", "p2", "port"]) (lo := 0) (hi := 3) rfl S5 (fun H1 Q' y => y) (by decide +kernel) (by decide) (by decide) (by decide) fun ol os H6 S6 b6 nol mol hol nos sos _ o3 => ?_
  have go := good_of sos (f := goodN) (by decide +kernel) eight_n
  have olS := S5.kn.off nol
  refine ⟨_, rfl, _, rfl, _, rfl, some_go (xs := ["lost", "bad", "stop", "fail"]) (lo := 0) (hi := 4) rfl S6 (fun H1 Q' y => y) (by decide +kernel) (by decide) (by decide) (by decide) fun rl rs H7 S7 b7 nrl mrl hrl nrs srs _ r4 => ⟨(by show (4 : Nat) ≤ sizeLine; omega), fun L nL mL => ?_⟩⟩
  have gr := good_of srs (f := goodN) (by decide +kernel) eight_n
  have rlS := S6.kn.off nrl
  have xL := Ex.new (o := HO.lst [V.ref D, V.ref D2, V.ref ol, V.ref rl]) nL
  have bH4 : But [p, c] H3 H7 := ((b4.trans b5).trans b6).trans b7
  have bH5 : But [p, c] H5 H7 := b6.trans b7
  have fD : H D = none := fresh_but (b1.trans b2) S2.kn nD
  have fE : H D2 = none := fresh_but (((b1.trans b2).trans b3).trans b4) S4.kn nD2
  have fO : H ol = none := fresh_but ((((b1.trans b2).trans b3).trans b4).trans b5) S5.kn nol
  have fR : H rl = none := fresh_but (((((b1.trans b2).trans b3).trans b4).trans b5).trans b6) S6.kn nrl
  have neL : ∀ {x : Addr} {o : HO}, H7 x = some o → x ≠ L := fun h => ne_of_none h nL
  refine q L ⟨rows, rows5, os, rs⟩ [D, D2, ol, rl] _ (S7.ex xL) ((((b1.trans b2).trans b3).trans bH4).trans (But.of xL)) ⟨?_, ?_, ?_, ?_, ?_, ?_, ?_, nos, ?_, o3, nrs, ?_, r4, fun x hx => of_decide_eq_true (gnz x.1 (by rw [← hr3]; exact List.mem_map_of_mem hx)), fun x hx => of_decide_eq_true (gmz x.1 (by rw [← hr5]; exact List.mem_map_of_mem hx))⟩ ?_ mL (hide_new S7.kn nL) ?_
  · show (rows.map (·.1)).Nodup
    rw [hr3]
    exact nns
  · intro x hx
    have := gn x.1 (by rw [← hr3]; exact List.mem_map_of_mem hx)
    unfold goodN at this
    rwa [Bool.and_eq_true] at this
  · intro x hx
    obtain ⟨h1, h2, h3, h4⟩ := hg3 x hx
    refine ⟨h1, h2, h3, fun y hy => ?_⟩
    have := h4 y hy
    unfold goodW at this
    rwa [Bool.and_eq_true] at this
  · have := congrArg List.length hr3
    rw [List.length_map] at this
    show rows.length ≤ 3
    omega
  · show (rows5.map (·.1)).Nodup
    rw [hr5]
    exact nms
  · intro x hx
    have := gm x.1 (by rw [← hr5]; exact List.mem_map_of_mem hx)
    unfold goodN at this
    rw [Bool.and_eq_true] at this
    exact ⟨this.1, this.2, hg5 x hx⟩
  · have := congrArg List.length hr5
    rw [List.length_map] at this
    show rows5.length ≤ 4
    omega
  · intro x hx
    have := go x hx
    unfold goodN at this
    rwa [Bool.and_eq_true] at this
  · intro x hx
    have := gr x hx
    unfold goodN at this
    rwa [Bool.and_eq_true] at this
  · intro x hx
    simp only [List.mem_cons, List.not_mem_nil, or_false] at hx
    rcases hx with rfl | rfl | rfl | rfl
    · exact ⟨fD, neL (bH4.get DS hD3)⟩
    · exact ⟨fE, neL (bH5.get D2S hD5)⟩
    · exact ⟨fO, neL (b7.get olS hol)⟩
    · exact ⟨fR, neL hrl⟩
  · have hD7 : (hide [p, c] H7) D = some (.lst vs) := by rw [hide_off DS]; exact bH4.get DS hD3
    have hE7 : (hide [p, c] H7) D2 = some (.lst vs5) := by rw [hide_off D2S]; exact bH5.get D2S hD5
    have hO7 : (hide [p, c] H7) ol = some (.lst (os.map V.str)) := by rw [hide_off olS]; exact b7.get olS hol
    have hR7 : (hide [p, c] H7) rl = some (.lst (rs.map V.str)) := by rw [hide_off rlS]; exact hrl
    have d0 : Df K w (hide [p, c] H7) (.ref D) (.list (rows.map sortD)) := .lst mD hD7 (DfAll.ex bH4 da3')
    have d1 : Df K w (hide [p, c] H7) (.ref D2) (.list (rows5.map primD)) := .lst mD2 hE7 (DfAll.ex bH5 da5')
    have d2 : Df K w (hide [p, c] H7) (.ref ol) (.list (os.map PyData.str)) := .lst mol hO7 df_strs
    have d3 : Df K w (hide [p, c] H7) (.ref rl) (.list (rs.map PyData.str)) := .lst mrl hR7 df_strs
    exact DfAll.ex (exHide xL) (.cons d0 (.cons d1 (.cons d2 (.cons d3 .nil))))
end
end L2.Vf.K01
/-! Whether a book tells its parts. -/
namespace L2.Vf.K01
open PySem PySem.Spec PyProof.Rows
open Evl (Ex Ev EvT EvL EvA)
abbrev s__law_told_right : Stmt := top 44
theorem op_eqDK {X : Cx} {K : PySem.W.Frag} (hu : X.A.units + 64 < cLine) (hK : X.K = K := by rfl) : OpR X (compareOp .Eq) (rEqD K) := by
  subst hK
  exact op_eqD hu
theorem op_neDK {X : Cx} {K : PySem.W.Frag} (hu : X.A.units + 64 < cLine) (hK : X.K = K := by rfl) : OpR X (compareOp .NotEq) (rNeD K) := by
  subst hK
  exact op_neD hu
/-- four parts that are right -/
structure FourR (K : PySem.W.Frag) (w : World) (H : Hp) (a : Addr) (b : Bk) : Prop where
  ex : ∃ (bb : Bool) (xs : List V) (d0 d1 d2 d3 : PyData), SqB K bb H a xs ∧ DwAll K w H xs [d0, d1, d2, d3] ∧ Right d0 d1 d2 d3 b ∧ smAll [d0, d1, d2, d3] = true ∧ cntAll [d0, d1, d2, d3] ≤ 800
/-- all strings of a book are small -/
structure BkSm (b : Bk) : Prop where
  s : ∀ x ∈ b.sorts, strSm x.1 = true ∧ ∀ y ∈ x.2, strSm y = true
  p : ∀ x ∈ b.prims, strSm x.1 = true
  o : ∀ x ∈ b.ports, strSm x = true
  r : ∀ x ∈ b.reasons, strSm x = true
theorem smAll_mem : ∀ {ds : List PyData}, smAll ds = true → ∀ d ∈ ds, smD d = true
  | x :: ds, h, d, hd => by
    have h' : (smD x && smAll ds) = true := h
    rw [Bool.and_eq_true] at h'
    rcases List.mem_cons.mp hd with e | hd
    · rw [e]; exact h'.1
    · exact smAll_mem h'.2 d hd
theorem sm_strs {ys : List Str} (h : smAll (ys.map PyData.str) = true) : ∀ y ∈ ys, strSm y = true := fun y hy => smAll_mem h _ (List.mem_map_of_mem hy)
theorem right_sm {d0 d1 d2 d3 : PyData} {b : Bk} (R : Right d0 d1 d2 d3 b) (sm : smAll [d0, d1, d2, d3] = true) : BkSm b := by
  have s0 := items_sm (smAll_mem sm d0 (by simp))
  have s1 := items_sm (smAll_mem sm d1 (by simp))
  have s2 := items_sm (smAll_mem sm d2 (by simp))
  have s3 := items_sm (smAll_mem sm d3 (by simp))
  rw [R.i0] at s0
  rw [R.i1] at s1
  rw [R.i2] at s2
  rw [R.i3] at s3
  refine ⟨fun x hx => ?_, fun x hx => ?_, sm_strs s2, sm_strs s3⟩
  · have h : smAll [PyData.str x.1, .tuple (x.2.map .str)] = true := smAll_mem s0 _ (List.mem_map_of_mem hx)
    exact ⟨smAll_mem h (.str x.1) (by simp), sm_strs (smAll_mem h (.tuple (x.2.map .str)) (by simp))⟩
  · have h : smAll [PyData.str x.1, .int (x.2 : Int)] = true := smAll_mem s1 _ (List.mem_map_of_mem hx)
    exact smAll_mem h (.str x.1) (by simp)
theorem lay_str {x : Str} (h : strSm x = true) : PyData.canLay0 (.str x) = true := by
  unfold strSm at h
  rw [Bool.and_eq_true] at h
  have h2 := h.2
  unfold asc at h2
  show PyData.strOk x = true
  unfold PyData.strOk
  rw [← Array.all_toList, List.all_eq_true]
  intro c hc
  have := of_decide_eq_true (List.all_eq_true.mp h2 c hc)
  exact decide_eq_true (by omega)
theorem lay_all {ds : List PyData} {n : Nat} (h : ∀ d ∈ ds, PyData.canLay0 d = true ∧ d.depth ≤ n) : PyData.canLayAll0 ds = true ∧ PyData.depthAll ds ≤ n := by
  induction ds with
  | nil => exact ⟨rfl, Nat.zero_le _⟩
  | cons d ds ih =>
    obtain ⟨h1, h2⟩ := h d List.mem_cons_self
    obtain ⟨h3, h4⟩ := ih fun e he => h e (List.mem_cons_of_mem _ he)
    constructor
    · show (PyData.canLay0 d && PyData.canLayAll0 ds) = true
      rw [h1, h3]
      rfl
    · show max d.depth (PyData.depthAll ds) ≤ n
      omega
theorem lay_strs {ys : List Str} (h : ∀ y ∈ ys, strSm y = true) : PyData.canLayAll0 (ys.map .str) = true ∧ PyData.depthAll (ys.map .str) ≤ 0 := lay_all fun d hd => by
  obtain ⟨y, hy, rfl⟩ := List.mem_map.mp hd
  exact ⟨lay_str (h y hy), Nat.le_refl _⟩
def allS (b : Bk) : List (Str × List Str) := b.sorts ++ [whyS b.reasons]
theorem allS_sm {b : Bk} (h : BkSm b) : ∀ x ∈ allS b, strSm x.1 = true ∧ ∀ y ∈ x.2, strSm y = true := fun x hx => by
  rcases List.mem_append.mp hx with z | z
  · exact h.s x z
  · rw [List.mem_singleton.mp z]
    refine ⟨(by show strSm "why" = true; decide +kernel), fun y hy => ?_⟩
    rcases List.mem_cons.mp hy with e | hy
    · rw [e]; decide +kernel
    rcases List.mem_cons.mp hy with e | hy
    · rw [e]; decide +kernel
    · exact h.r y hy
theorem lay_sorts {xs : List (Str × List Str)} (h : ∀ x ∈ xs, strSm x.1 = true ∧ ∀ y ∈ x.2, strSm y = true) : PyData.canLayAll0 (xs.map sortD) = true ∧ PyData.depthAll (xs.map sortD) ≤ 2 := lay_all fun d hd => by
  obtain ⟨x, hx, rfl⟩ := List.mem_map.mp hd
  obtain ⟨h1, h2⟩ := h x hx
  obtain ⟨g1, g2⟩ := lay_strs h2
  constructor
  · show (PyData.canLay0 (.str x.1) && (PyData.canLayAll0 (x.2.map .str) && true)) = true
    rw [lay_str h1, g1]
    rfl
  · show max 0 (max (PyData.depthAll (x.2.map .str) + 1) 0) + 1 ≤ 2
    omega
theorem lay_prims {xs : List (Str × Nat)} (h : ∀ x ∈ xs, strSm x.1 = true) : PyData.canLayAll0 (xs.map primD) = true ∧ PyData.depthAll (xs.map primD) ≤ 2 := lay_all fun d hd => by
  obtain ⟨x, hx, rfl⟩ := List.mem_map.mp hd
  constructor
  · show (PyData.canLay0 (.str x.1) && true) = true
    rw [lay_str (h x hx)]
    rfl
  · exact Nat.le_succ 1
def dueD (b : Bk) : PyData := .list [.list ((allS b).map sortD), .list (b.prims.map primD), .list ((b.ports ++ (["gone"] : List Str)).map .str), .list (b.reasons.map .str)]
theorem due_lay {b : Bk} (h : BkSm b) : SeqAt.shaped (dueD b) = true := by
  obtain ⟨a1, a2⟩ := lay_sorts (allS_sm h)
  obtain ⟨p1, p2⟩ := lay_prims h.p
  obtain ⟨o1, o2⟩ := lay_strs (ys := b.ports ++ (["gone"] : List Str)) fun y hy => by
    rcases List.mem_append.mp hy with z | z
    · exact h.o y z
    · rw [List.mem_singleton.mp z]; decide +kernel
  obtain ⟨r1, r2⟩ := lay_strs h.r
  show (PyData.canLay0 (dueD b) && decide ((dueD b).depth ≤ 64)) = true
  rw [Bool.and_eq_true]
  constructor
  · show (PyData.canLayAll0 ((allS b).map sortD) && (PyData.canLayAll0 (b.prims.map primD) && (PyData.canLayAll0 ((b.ports ++ (["gone"] : List Str)).map .str) && (PyData.canLayAll0 (b.reasons.map .str) && true)))) = true
    rw [a1, p1, o1, r1]
    rfl
  · refine decide_eq_true ?_
    show max (PyData.depthAll ((allS b).map sortD) + 1) (max (PyData.depthAll (b.prims.map primD) + 1) (max (PyData.depthAll ((b.ports ++ (["gone"] : List Str)).map .str) + 1) (max (PyData.depthAll (b.reasons.map .str) + 1) 0))) + 1 ≤ 64
    omega
theorem find_nodup {α : Type} : ∀ {xs : List (Str × α)} {x : Str × α}, (xs.map (·.1)).Nodup → x ∈ xs → xs.find? (fun p => decide (p.1 = x.1)) = some x
  | y :: ys, x, h, hx => by
    rw [List.map_cons, List.nodup_cons] at h
    rw [List.find?_cons]
    rcases List.mem_cons.mp hx with e | hx
    · rw [e, decide_eq_true rfl]
    · have ne : ¬ y.1 = x.1 := fun z => h.1 (by rw [z]; exact List.mem_map_of_mem hx)
      rw [decide_eq_false ne]
      exact find_nodup h.2 hx
theorem allS_nodup {d0 d1 d2 d3 : PyData} {b : Bk} (R : Right d0 d1 d2 d3 b) : ((allS b).map (·.1)).Nodup := by
  unfold allS
  rw [List.map_append, List.nodup_append]
  refine ⟨R.n0, by simp, fun a ha c hc e => ?_⟩
  obtain ⟨x, hx, rfl⟩ := List.mem_map.mp ha
  have : c = "why" := by simpa [whyS] using hc
  exact R.y0 x hx (by rw [e, this]; simp [kept])
/-- what a book has to tell, in lists -/
structure DueAt (K : PySem.W.Frag) (H : Hp) (U : Addr) (b : Bk) (u0 u1 u2 u3 : Addr) (s0 s1 : List V) : Prop where
  u : H U = some (.lst [.ref u0, .ref u1, .ref u2, .ref u3])
  h0 : H u0 = some (.lst s0)
  r0 : RSorts K H s0 b
  h1 : H u1 = some (.lst s1)
  r1 : RPrims K H s1 b
  h2 : H u2 = some (.lst ((b.ports ++ (["gone"] : List Str)).map V.str))
  h3 : H u3 = some (.lst (b.reasons.map V.str))
section
variable {K : PySem.W.Frag} {H H' : Hp} {U u0 u1 u2 u3 : Addr} {b : Bk} {s0 s1 : List V}
theorem DueAt.ex (h : DueAt K H U b u0 u1 u2 u3 s0 s1) (e : Ex H H') : DueAt K H' U b u0 u1 u2 u3 s0 s1 :=
  ⟨e _ _ h.u, e _ _ h.h0, pairedTo h.r0 fun _ _ g => g.to (Evl.ex_t e), e _ _ h.h1, pairedTo h.r1 fun _ _ g => g.to (Evl.ex_t e), e _ _ h.h2, e _ _ h.h3⟩
theorem DueAt.dp (h : DueAt K H U b u0 u1 u2 u3 s0 s1) : Dp K H (.ref U) (dueD b) :=
  .lst (SqL.of h.u) (.cons (.lst (SqL.of h.h0) (dp_sorts h.r0)) (.cons (.lst (SqL.of h.h1) (dp_prims h.r1)) (.cons (.lst (SqL.of h.h2) dp_strs) (.cons (.lst (SqL.of h.h3) dp_strs) .nil))))
end
theorem pairedAt {α β : Type} {F : α → β → Prop} : ∀ {l₁ : List α} {l₂ : List β} {i : Nat} {x : α}, Paired F l₁ l₂ → l₁[i]? = some x → ∃ y, l₂[i]? = some y ∧ F x y
  | _, _, i, x, .nil, h => by simp at h
  | _, _, 0, x, .cons h _, e => by
    obtain rfl := Option.some.inj e
    exact ⟨_, rfl, h⟩
  | _, _, i + 1, x, .cons _ t, e => by
    obtain ⟨y, h1, h2⟩ := pairedAt (i := i) t (by simpa using e)
    exact ⟨y, by simpa using h1, h2⟩
theorem dp_ints {K : PySem.W.Frag} {H : Hp} : ∀ {xs : List (Str × Nat)}, DpAll K H (xs.map fun x => V.int (x.2 : Int)) (xs.map fun x => PyData.int (x.2 : Int))
  | [] => .nil
  | x :: xs => .cons (.int _) dp_ints
theorem lay_ints (xs : List (Str × Nat)) : PyData.canLayAll0 (xs.map fun x => PyData.int (x.2 : Int)) = true ∧ PyData.depthAll (xs.map fun x => PyData.int (x.2 : Int)) ≤ 0 := lay_all fun d hd => by
  obtain ⟨x, _, rfl⟩ := List.mem_map.mp hd
  exact ⟨rfl, Nat.le_refl _⟩
def spToldRight (K : PySem.W.Frag) (w : World) (C : Addr) : Sp := fun vs H Q _ => ∃ (p a : Addr) (b : Bk), vs = [.ref p, .ref a] ∧ BookAt K w H C p b ∧ FourR K w H a b ∧ ∀ H', Ex H H' → Q (.bl true) H'
section
variable {P : Program} {w : World} {K : PySem.W.Frag} {mg : Str → Option Value} {base : Heap} {f C CU : Addr} {fd : FuncData}
abbrev n__law_told_right : List Str := ["_law_book_here", "_law_parts", "_law_why", "_law_due", "_law_lap", "_law_told", "_law_some_here", "_law_name", "_law_words", "_law_count"]
theorem sc__law_told_right : FnScope n__law_told_right ["_law_book_here", "_law_parts"] (defScope s__law_told_right) := ⟨rfl, rfl, rfl, by decide +kernel, rfl, by decide +kernel, by decide +kernel⟩
theorem ok_told_right {f1 f2 f3 f4 f5 f6 : Addr} {fd1 fd2 fd3 fd4 fd5 fd6 : FuncData} (F : Fun K "_law_told_right" "_law_told_right" s__law_told_right f fd) (M : BkTxt K C) (m_tuple : mg "tuple" = none) (m_list : mg "list" = none) (m_range : mg "range" = none)
    (mm_sorts : Meth K C "sorts" f1) (GM_sorts : FnOk P w K mg base CX0 1 f1 fd1 ["self"] (spLst K w C (RSorts K))) (bm_sorts : Binds K fd1 ["self"] [])
    (mm_primitives : Meth K C "primitives" f2) (GM_primitives : FnOk P w K mg base CX0 1 f2 fd2 ["self"] (spLst K w C (RPrims K))) (bm_primitives : Binds K fd2 ["self"] [])
    (mm_ports : Meth K C "ports" f3) (GM_ports : FnOk P w K mg base CX0 1 f3 fd3 ["self"] (spLst K w C RPorts)) (bm_ports : Binds K fd3 ["self"] [])
    (mm_reasons : Meth K C "reasons" f4) (GM_reasons : FnOk P w K mg base CX0 1 f4 fd4 ["self"] (spLst K w C RReas)) (bm_reasons : Binds K fd4 ["self"] [])
    (mm_words : Meth K C "words" f5) (GM_words : FnOk P w K mg base (L2.CX P w) 3 f5 fd5 ["self", "sort"] (spWords K w C CU)) (bm_words : Binds K fd5 ["self", "sort"] [])
    (mm_count : Meth K C "count" f6) (GM_count : FnOk P w K mg base (L2.CX P w) 3 f6 fd6 ["self", "primitive"] (spCount K w C CU)) (bm_count : Binds K fd6 ["self", "primitive"] []) :
    FnOk P w K mg base CX0 4 f fd ["_law_book_here", "_law_parts"] (spToldRight K w C) := by
  refine F.ok sc__law_told_right (fun vs H Q E h => ?_) (fun cdv A outer s H vs Q E hr h => ?_)
  · obtain ⟨p, a, b, rfl, _⟩ := h
    rfl
  obtain ⟨p, a, b, rfl, hB, ⟨bb, xs, d0, d1, d2, d3, hs, ha, R, sm, cn⟩, q⟩ := h
  refine ⟨_, (pss_cons (ps_set (i := 2) sc__law_told_right.nd rfl (.inl rfl) (pe_tup (pa_cons pe_str (pa_cons (pe_op (op_catAK (K := K)) (pe_tup (pa_cons pe_str (pa_cons pe_str pa_nil))) (pe_callTy (call_tuple_ofK (K := K)) (by rfl) m_tuple (by decide +kernel) (pa_cons (pe_ix (ix_seqK (K := K)) (pv 1) pe_int (fun _ _ => rfl)) pa_nil))) pa_nil))))
  (pss_cons (ps_set (i := 3) sc__law_told_right.nd rfl (.inl rfl) (pe_lst (pa_cons (pe_op op_cat (pe_callTy call_list_of (by rfl) m_list (by decide +kernel) (pa_cons (pe_ix (ix_seqK (K := K)) (pv 1) pe_int (fun _ _ => rfl)) pa_nil)) (pe_lst (pa_cons (pv 2) pa_nil))) (pa_cons (pe_callTy call_list_of (by rfl) m_list (by decide +kernel) (pa_cons (pe_ix (ix_seqK (K := K)) (pv 1) pe_int (fun _ _ => rfl)) pa_nil)) (pa_cons (pe_op op_cat (pe_callTy call_list_of (by rfl) m_list (by decide +kernel) (pa_cons (pe_ix (ix_seqK (K := K)) (pv 1) pe_int (fun _ _ => rfl)) pa_nil)) (pe_lst (pa_cons pe_str pa_nil))) (pa_cons (pe_callTy call_list_of (by rfl) m_list (by decide +kernel) (pa_cons (pe_ix (ix_seqK (K := K)) (pv 1) pe_int (fun _ _ => rfl)) pa_nil)) pa_nil))))))
  (pss_cons (ps_for PassesOwn.never rfl (pi_range1 rfl m_range (pa_cons pe_int pa_nil)) (pg_name (i := 4) sc__law_told_right.nd rfl (.inl rfl))
  (pss_cons (ps_set (i := 5) sc__law_told_right.nd rfl (.inl rfl) (pe_lst (pa_cons (pe_meth0 (pv 0) M.cl mm_sorts GM_sorts (hr.mono (by omega)) bm_sorts .nil pass0) (pa_cons (pe_meth0 (pv 0) M.cl mm_primitives GM_primitives (hr.mono (by omega)) bm_primitives .nil pass0) (pa_cons (pe_meth0 (pv 0) M.cl mm_ports GM_ports (hr.mono (by omega)) bm_ports .nil pass0) (pa_cons (pe_meth0 (pv 0) M.cl mm_reasons GM_reasons (hr.mono (by omega)) bm_reasons .nil pass0) pa_nil))))))
  (pss_cons (ps_if (pt_cmpR (op_neDK (K := K) (units64 hr)) (pv 5) (pv 3) (nomark _))
  (pss_one (ps_ret pe_bl))
  pss_nil)
  (pss_one (ps_for PassesOwn.never rfl (pi_list (pv 5)) (pg_name (i := 6) sc__law_told_right.nd rfl (.inl rfl))
  (pss_one (ps_expr (pe_bm PySem.F.plainAttrs_list PySem.F.slot_list_append PySem.F.type_list_append mt_append (pv 6) (pa_cons pe_non pa_nil)))))))))
  (pss_cons (ps_for PassesOwn.never rfl (pi_list (pe_ix (ix_listK (K := K)) (pv 3) pe_int (fun _ _ => rfl))) (pg_tup rfl (pgs_cons (pg_name (i := 7) sc__law_told_right.nd rfl (.inl rfl)) (pgs_cons (pg_name (i := 8) sc__law_told_right.nd rfl (.inl rfl)) pgs_nil)))
  (pss_cons (ps_expr (pe_bm PySem.F.plainAttrs_list PySem.F.slot_list_append PySem.F.type_list_append mt_append (pe_meth (pv 0) M.cl mm_words GM_words (hr.mono (by omega)) bm_words .nil passL (pa_cons (pv 7) pa_nil)) (pa_cons pe_non pa_nil)))
  (pss_one (ps_if (pt_cmpR (op_neDK (K := K) (units64 hr)) (pe_meth (pv 0) M.cl mm_words GM_words (hr.mono (by omega)) bm_words .nil passL (pa_cons (pv 7) pa_nil)) (pe_callTy call_list_of (by rfl) m_list (by decide +kernel) (pa_cons (pv 8) pa_nil)) (nomark _))
  (pss_one (ps_ret pe_bl))
  pss_nil))))
  (pss_one (ps_ret (pe_cmpR (op_eqDK (K := K) hr.units) (pe_lc (own := [("_law_name", 7), ("_law_count", 9)]) (g := gTup K 2 (gCons (gName 7) (gCons (gName 9) (gNil)))) (tt := _) rfl sc__law_told_right.nd (pi_list (pe_ix (ix_listK (K := K)) (pv 3) pe_int (fun _ _ => rfl))) (blkOk_by (N := n__law_told_right) (sc := defScope s__law_told_right) (by decide +kernel)) (fun _ _ _ _ _ => (pg_tup rfl (pgs_cons (pg_name (i := 7) sc__law_told_right.nd rfl (.inl rfl)) (pgs_cons (pg_name (i := 9) sc__law_told_right.nd rfl (.inl rfl)) pgs_nil)))) (fun _ _ _ _ _ => pts_nil) (fun _ _ _ _ _ => (pe_meth (pv 0) M.cl mm_count GM_count (hr.mono (by omega)) bm_count .nil passL (pa_cons (pv 7) pa_nil)))) (pe_lc (own := [("_law_name", 7), ("_law_count", 9)]) (g := gTup K 2 (gCons (gName 7) (gCons (gName 9) (gNil)))) (tt := _) rfl sc__law_told_right.nd (pi_list (pe_ix (ix_listK (K := K)) (pv 3) pe_int (fun _ _ => rfl))) (blkOk_by (N := n__law_told_right) (sc := defScope s__law_told_right) (by decide +kernel)) (fun _ _ _ _ _ => (pg_tup rfl (pgs_cons (pg_name (i := 7) sc__law_told_right.nd rfl (.inl rfl)) (pgs_cons (pg_name (i := 9) sc__law_told_right.nd rfl (.inl rfl)) pgs_nil)))) (fun _ _ _ _ _ => pts_nil) (fun _ _ _ _ _ => (pv 9))) (nomark _)))))))), ?_⟩
  have sz : sizeLine = 16777216 := sizeLine_eq
  have bs := right_sm R sm
  have cn' : cnt d0 + (cnt d1 + (cnt d2 + (cnt d3 + 0))) ≤ 800 := cn
  have n0 := items_len d0
  have n1 := items_len d1
  have n2 := items_len d2
  have n3 := items_len d3
  cases ha with
  | @cons w0 xs1 _ _ D0 ha =>
  cases ha with
  | @cons w1 xs2 _ _ D1 ha =>
  cases ha with
  | @cons w2 xs3 _ _ D2 ha =>
  cases ha with
  | @cons w3 xs4 _ _ D3 ha =>
  cases ha
  obtain ⟨a0, b0, ys0, rfl, hs0, ha0⟩ := dw_seq D0 R.l0
  obtain ⟨a1, b1, ys1, rfl, hs1, ha1⟩ := dw_seq D1 R.l1
  obtain ⟨a2, b2, ys2, rfl, hs2, ha2⟩ := dw_seq D2 R.l2
  obtain ⟨a3, b3, ys3, rfl, hs3, ha3⟩ := dw_seq D3 R.l3
  have l0 := dwAll_len ha0
  have l1 := dwAll_len ha1
  have l2 := dwAll_len ha2
  have l3 := dwAll_len ha3
  rw [R.i0] at ha0
  rw [R.i1] at ha1
  rw [R.i2] at ha2
  rw [R.i3] at ha3
  have lr3 : (b.reasons.map V.str).length ≤ 900 := by rw [← dw_strs ha3, l3]; omega
  have S0 : Paired (SortV K H) ys0 b.sorts := paired_of (F := SortV K H) (g := sortD) (fun v x h => sort_of h) ha0
  have P1 : Paired (PrimV K H) ys1 b.prims := paired_of (F := PrimV K H) (g := primD) (fun v x h => prim_of h) ha1
  obtain rfl := dw_strs ha2
  obtain rfl := dw_strs ha3
  refine seq_to (fun σ' H' => ∃ wy W8, σ' = [some (.ref p), some (.ref a), some (.ref wy), none, none, none, none, none, none, none] ∧ Ex H H' ∧ SqT K H' wy [.str "why", .ref W8] ∧ SqT K H' W8 ((whyS b.reasons).2.map V.str)) (fun Nx kx => ?_) ?_
  · refine ⟨(by show (2 : Nat) ≤ sizeLine; omega), fun u nu => ⟨_, rfl, rIx_go (k := 3) (hs.mono (Ex.new nu)) rfl ?_⟩⟩
    have xu := Ex.new (o := HO.tup [V.str "ended", V.str "closed"]) nu
    have fin : ∀ t H1, Ex (upd H u (.tup [V.str "ended", V.str "closed"])) H1 → SqT K H1 t (b.reasons.map V.str) → ∀ r H2, Ex H1 H2 → SqT K H2 r ([V.str "ended", V.str "closed"] ++ b.reasons.map V.str) → (2 : Nat) ≤ sizeLine ∧ ∀ y, H2 y = none → Nx [some (.ref p), some (.ref a), some (.ref y), none, none, none, none, none, none, none] (upd H2 y (.tup [V.str "why", V.ref r])) := fun t H1 e1 ht r H2 e2 hr' => ⟨by omega, fun y ny => kx _ _ ⟨y, r, rfl, ((xu.trans e1).trans e2).trans (Ex.new ny), .inl (.inl upd_same), Evl.ex_t (Ex.new ny) hr'⟩⟩
    have cat : ∀ t H1, Ex (upd H u (.tup [V.str "ended", V.str "closed"])) H1 → SqT K H1 t (b.reasons.map V.str) → ∀ Q' : VK, (∀ r H2, Ex H1 H2 → SqT K H2 r ([V.str "ended", V.str "closed"] ++ b.reasons.map V.str) → Q' (.ref r) H2) → rCatA K (.ref u) (.ref t) H1 Q' := fun t H1 e1 ht Q' k =>
      ⟨u, t, _, _, rfl, rfl, Evl.ex_t e1 (.inl (.inl upd_same)), ht, (by rw [sz]; show 2 + _ ≤ 16777216; omega), fun z => (by cases z), fun _ z => k u H1 (Ex.refl _) (by rw [z, List.append_nil]; exact Evl.ex_t e1 (.inl (.inl upd_same))), fun _ _ r nr => k r _ (Ex.new nr) (.inl (.inl upd_same))⟩
    cases b3 with
    | true => exact ⟨a3, _, rfl, .inl ⟨Evl.ex_l xu hs3, fun l nl => cat l _ (Ex.new nl) (.inl (.inl upd_same)) _ fun r H2 e2 hr' => fin l _ (Ex.new nl) (.inl (.inl upd_same)) r H2 e2 hr'⟩⟩
    | false => exact ⟨a3, _, rfl, .inr ⟨Evl.ex_t xu hs3, cat a3 _ (Ex.refl _) (Evl.ex_t xu hs3) _ fun r H2 e2 hr' => fin a3 _ (Ex.refl _) (Evl.ex_t xu hs3) r H2 e2 hr'⟩⟩
  rintro _ H1 ⟨wy, W8, rfl, e1, hwy, hW8⟩
  refine seq_to (fun σ' H' => ∃ U u0 u1 u2 u3 s0 s1, σ' = [some (.ref p), some (.ref a), some (.ref wy), some (.ref U), none, none, none, none, none, none] ∧ Ex H1 H' ∧ DueAt K H' U b u0 u1 u2 u3 s0 s1) (fun Nx kx => ?_) ?_
  · refine ⟨_, rfl, rIx_go (k := 0) (hs.mono e1) rfl ⟨a0, ys0, rfl, (hs0.mono e1).lenS, fun l0' nl0 => ⟨_, rfl, (by show (1 : Nat) ≤ sizeLine; omega), fun m0 nm0 => ⟨l0', m0, ys0, [.ref wy], rfl, rfl, Ex.new nm0 _ _ upd_same, upd_same, (by rw [l0, sz]; show _ + 1 ≤ 16777216; omega), fun u0 nu0 => ?_⟩⟩⟩⟩
    have x0 := ((Ex.new (o := HO.lst ys0) nl0).trans (Ex.new (o := HO.lst [V.ref wy]) nm0)).trans (Ex.new (o := HO.lst (ys0 ++ [V.ref wy])) nu0)
    have h0 : (upd (upd (upd H1 l0' (.lst ys0)) m0 (.lst [V.ref wy])) u0 (.lst (ys0 ++ [V.ref wy]))) u0 = some (.lst (ys0 ++ [V.ref wy])) := upd_same
    generalize (upd (upd (upd H1 l0' (.lst ys0)) m0 (.lst [V.ref wy])) u0 (.lst (ys0 ++ [V.ref wy]))) = G0 at x0 h0 ⊢
    refine ⟨_, rfl, rIx_go (k := 1) (hs.mono (e1.trans x0)) rfl ⟨a1, ys1, rfl, (hs1.mono (e1.trans x0)).lenS, fun u1 nu1 => ⟨_, rfl, rIx_go (k := 2) (hs.mono ((e1.trans x0).trans (Ex.new nu1))) rfl ⟨a2, _, rfl, (hs2.mono ((e1.trans x0).trans (Ex.new nu1))).lenS, fun l2' nl2 => ⟨(by show (1 : Nat) ≤ sizeLine; omega), fun m2 nm2 => ⟨l2', m2, b.ports.map V.str, [.str "gone"], rfl, rfl, Ex.new nm2 _ _ upd_same, upd_same, (by rw [l2, sz]; show _ + 1 ≤ 16777216; omega), fun u2 nu2 => ?_⟩⟩⟩⟩⟩⟩
    have x1 := Ex.new (o := HO.lst ys1) nu1
    have x2 := ((Ex.new (o := HO.lst (b.ports.map V.str)) nl2).trans (Ex.new (o := HO.lst [V.str "gone"]) nm2)).trans (Ex.new (o := HO.lst (b.ports.map V.str ++ [V.str "gone"])) nu2)
    have h1 := x2 _ _ (show (upd G0 u1 (.lst ys1)) u1 = some (.lst ys1) from upd_same)
    have h2 : (upd (upd (upd (upd G0 u1 (.lst ys1)) l2' (.lst (b.ports.map V.str))) m2 (.lst [V.str "gone"])) u2 (.lst (b.ports.map V.str ++ [V.str "gone"]))) u2 = some (.lst (b.ports.map V.str ++ [V.str "gone"])) := upd_same
    have x02 := x1.trans x2
    generalize (upd (upd (upd (upd G0 u1 (.lst ys1)) l2' (.lst (b.ports.map V.str))) m2 (.lst [V.str "gone"])) u2 (.lst (b.ports.map V.str ++ [V.str "gone"]))) = G2 at x02 h1 h2 ⊢
    refine ⟨_, rfl, rIx_go (k := 3) (hs.mono ((e1.trans x0).trans x02)) rfl ⟨a3, _, rfl, (hs3.mono ((e1.trans x0).trans x02)).lenS, fun u3 nu3 => ⟨(by show (4 : Nat) ≤ sizeLine; omega), fun U nU => kx _ _ ⟨U, u0, u1, u2, u3, ys0 ++ [V.ref wy], ys1, rfl, ?_, ?_⟩⟩⟩⟩
    · exact ((x0.trans x02).trans (Ex.new nu3)).trans (Ex.new nU)
    · have x3 := Ex.new (o := HO.lst (b.reasons.map V.str)) nu3
      have x4 := Ex.new (o := HO.lst [V.ref u0, V.ref u1, V.ref u2, V.ref u3]) nU
      have xe := (x02.trans x3).trans x4
      have k1 : KT K H (upd (upd G2 u3 (.lst (b.reasons.map V.str))) U (.lst [V.ref u0, V.ref u1, V.ref u2, V.ref u3])) := fun {_ _} g => Evl.ex_t ((e1.trans x0).trans xe) g
      refine ⟨upd_same, xe _ _ h0, pairedApp (pairedTo S0 fun _ _ g => g.to k1) ⟨wy, W8, rfl, Evl.ex_t (x0.trans xe) hwy, Evl.ex_t (x0.trans xe) hW8⟩, (x3.trans x4) _ _ h1, pairedTo P1 fun _ _ g => g.to k1, ?_, x4 _ _ upd_same⟩
      rw [List.map_append]
      exact (x3.trans x4) _ _ h2
  rintro _ H2 ⟨U, u0, u1, u2, u3, s0, s1, rfl, e2, DU⟩
  have e02 := e1.trans e2
  have hB2 := hB.up (UpL.of e02)
  have lay := due_lay bs
  obtain ⟨dx, bs1, bs2, bs3, bs4, bs5, bs6, hp2, _⟩ := id hB2
  have ev : PyData.eqv (dueD b) (dueD b) = true := PySem.SeqAt.eqv_refl _ (SeqAt.canLay_of_shaped lay)
  have lS : (allS b).length ≤ 901 := by
    unfold allS
    rw [List.length_append, ← Paired.length S0, l0]
    show _ + 1 ≤ 901
    omega
  refine ⟨_, rfl, by omega, by omega, for_range (lo := 0) (n := ((2 : Nat) : Int).toNat) (fun i σ H' => (∃ y4 y5 y6, σ = [some (.ref p), some (.ref a), some (.ref wy), some (.ref U), y4, y5, y6, none, none, none]) ∧ Ex H2 H') ⟨⟨none, none, none, rfl⟩, Ex.refl H2⟩ ?_ ?_⟩
  · rintro i σ H3 hi ⟨⟨y4, y5, y6, rfl⟩, e3⟩
    refine ⟨_, rfl, p, dx, _, rfl, e3 _ _ hp2, rfl, p, b, rfl, hB2.up (UpL.of e3), fun t0 z0 G0 x0 nt0 ht0 hr0 => ⟨_, rfl, p, dx, _, rfl, (e3.trans x0) _ _ hp2, rfl, p, b, rfl, hB2.up (UpL.of (e3.trans x0)), fun t1 z1 G1 x1 nt1 ht1 hr1 => ⟨_, rfl, p, dx, _, rfl, ((e3.trans x0).trans x1) _ _ hp2, rfl, p, b, rfl, hB2.up (UpL.of ((e3.trans x0).trans x1)), fun t2 z2 G2 x2 nt2 ht2 hr2 => ⟨_, rfl, p, dx, _, rfl, (((e3.trans x0).trans x1).trans x2) _ _ hp2, rfl, p, b, rfl, hB2.up (UpL.of (((e3.trans x0).trans x1).trans x2)), fun t3 z3 G3 x3 nt3 ht3 hr3 => ⟨(by show (4 : Nat) ≤ sizeLine; omega), fun W nW => ?_⟩⟩⟩⟩⟩
    have x13 := (x1.trans x2).trans x3
    have xW := Ex.new (o := HO.lst [V.ref t0, V.ref t1, V.ref t2, V.ref t3]) nW
    have nT1 := Evl.fresh_back x0 nt1
    have nT2 := Evl.fresh_back (x0.trans x1) nt2
    have nT3 := Evl.fresh_back ((x0.trans x1).trans x2) nt3
    have hr2' : z2 = (b.ports ++ (["gone"] : List Str)).map V.str := hr2
    have hr3' : z3 = b.reasons.map V.str := hr3
    subst hr2' hr3'
    have DT : DueAt K (upd G3 W (.lst [V.ref t0, V.ref t1, V.ref t2, V.ref t3])) W b t0 t1 t2 t3 z0 z1 := ⟨upd_same, (x13.trans xW) _ _ ht0, pairedTo hr0 fun _ _ g => g.to (Evl.ex_t (x13.trans xW)), ((x2.trans x3).trans xW) _ _ ht1, pairedTo hr1 fun _ _ g => g.to (Evl.ex_t ((x2.trans x3).trans xW)), (x3.trans xW) _ _ ht2, xW _ _ ht3⟩
    have e34 := (x0.trans x13).trans xW
    refine ⟨_, rfl, _, rfl, dueD b, dueD b, DT.dp, (DU.ex (e3.trans e34)).dp, lay, lay, false, by rw [ev]; rfl, iteF ?_⟩
    generalize upd G3 W (.lst [V.ref t0, V.ref t1, V.ref t2, V.ref t3]) = G4 at DT e34 ⊢
    have ns : ∀ t ∈ [t0, t1, t2, t3], H3 t = none := fun t ht => by
      simp only [List.mem_cons, List.not_mem_nil, or_false] at ht
      rcases ht with rfl | rfl | rfl | rfl
      · exact nt0
      · exact nT1
      · exact nT2
      · exact nT3
    have lz : ∀ t ∈ [t0, t1, t2, t3], ∃ zs, G4 t = some (.lst zs) ∧ zs.length ≤ 901 + 0 := fun t ht => by
      simp only [List.mem_cons, List.not_mem_nil, or_false] at ht
      rcases ht with rfl | rfl | rfl | rfl
      · exact ⟨_, DT.h0, by rw [Paired.length DT.r0]; exact lS⟩
      · exact ⟨_, DT.h1, by rw [Paired.length DT.r1, ← Paired.length P1, l1]; omega⟩
      · exact ⟨_, DT.h2, by rw [List.map_append, List.length_append, l2]; show _ + 1 ≤ 901 + 0; omega⟩
      · exact ⟨_, DT.h3, by omega⟩
    have hWt : ∀ t ∈ [t0, t1, t2, t3], t ≠ W := fun t ht e => by
      have n3 := ns t ht
      have hg : G3 t ≠ none := by
        simp only [List.mem_cons, List.not_mem_nil, or_false] at ht
        rcases ht with rfl | rfl | rfl | rfl
        · rw [x13 _ _ ht0]; simp
        · rw [(x2.trans x3) _ _ ht1]; simp
        · rw [x3 _ _ ht2]; simp
        · rw [ht3]; simp
      rw [e] at hg
      exact hg nW
    refine ⟨_, rfl, W, rfl, ⟨_, SqL.of DT.u⟩, for_list (K := K) (a := W) (xs := [V.ref t0, V.ref t1, V.ref t2, V.ref t3]) (fun j σ H' => (∃ y6, σ = [some (.ref p), some (.ref a), some (.ref wy), some (.ref U), some (.int (0 + (i : Int))), some (.ref W), y6, none, none, none]) ∧ Ex H3 H' ∧ H' W = some (.lst [V.ref t0, V.ref t1, V.ref t2, V.ref t3]) ∧ ∀ t ∈ [t0, t1, t2, t3], ∃ zs, H' t = some (.lst zs) ∧ zs.length ≤ 901 + j)
      ⟨⟨_, rfl⟩, e34, DT.u, lz⟩ (fun j σ H' _ h => SqL.of h.2.2.1) ?_ ?_⟩
    · rintro j x σ H4 hj ⟨⟨y6', rfl⟩, e4, hW4, lz4⟩
      obtain ⟨t, ht, rfl⟩ : ∃ t ∈ [t0, t1, t2, t3], x = V.ref t := by
        have hm := List.mem_of_getElem? hj
        simp only [List.mem_cons, List.not_mem_nil, or_false] at hm
        rcases hm with rfl | rfl | rfl | rfl
        · exact ⟨t0, by simp, rfl⟩
        · exact ⟨t1, by simp, rfl⟩
        · exact ⟨t2, by simp, rfl⟩
        · exact ⟨t3, by simp, rfl⟩
      have hj4 : j < 4 := (List.getElem?_eq_some_iff.mp hj).1
      obtain ⟨zs, hz, lzz⟩ := lz4 t ht
      refine ⟨_, rfl, .inl ⟨rfl, _, SqL.of hz⟩, t, zs, .non, rfl, rfl, hz, by omega, ⟨_, rfl⟩, e4.mut (ns t ht), ?_, fun t' ht' => ?_⟩
      · rw [upd_ne (hWt t ht).symm]
        exact hW4
      · by_cases z : t' = t
        · rw [z, upd_same]
          exact ⟨_, rfl, by rw [List.length_append]; show _ + 1 ≤ _; omega⟩
        · obtain ⟨zs', hz', lz'⟩ := lz4 t' ht'
          rw [upd_ne z]
          exact ⟨zs', hz', by omega⟩
    · rintro σ H4 ⟨⟨y6', rfl⟩, e4, _, _⟩
      exact ⟨⟨_, _, _, rfl⟩, e3.trans e4⟩
  rintro σ H3 ⟨⟨y4, y5, y6, rfl⟩, e3⟩
  have D3 := DU.ex e3
  have ndA := allS_nodup R
  refine ⟨_, rfl, U, _, 0, .ref u0, rfl, rfl, SqL.of D3.u, atI_nat (j := 0) rfl, u0, rfl, ⟨_, SqL.of D3.h0⟩, for_list (K := K) (a := u0) (xs := s0) (fun i σ H' => (∃ y4 y5 y6 y7 y8, σ = [some (.ref p), some (.ref a), some (.ref wy), some (.ref U), y4, y5, y6, y7, y8, none]) ∧ Ex H2 H') ⟨⟨_, _, _, _, _, rfl⟩, e3⟩ (fun i σ H' _ h => SqL.of (h.2 _ _ DU.h0)) ?_ ?_⟩
  · rintro i x σ H4 hi ⟨⟨y4, y5, y6, y7, y8, rfl⟩, e4⟩
    obtain ⟨xx, hxx, hx⟩ := pairedAt DU.r0 hi
    obtain ⟨ra, c, rfl, hra, hc⟩ := hx
    have mem := List.mem_of_getElem? hxx
    have wl : wLook b (.str xx.1) = some xx.2 := by
      exact congrArg (Option.map (·.2)) (find_nodup (xs := allS b) ndA mem)
    have smx := allS_sm bs xx mem
    obtain ⟨g1, g2⟩ := lay_strs smx.2
    have shw : SeqAt.shaped (.list (xx.2.map PyData.str)) = true := by
      show (PyData.canLayAll0 (xx.2.map PyData.str) && decide (PyData.depthAll (xx.2.map PyData.str) + 1 ≤ 64)) = true
      rw [g1, decide_eq_true (show PyData.depthAll (xx.2.map PyData.str) + 1 ≤ 64 by omega)]
      rfl
    refine ⟨ra, _, rfl, Evl.ex_t e4 hra, rfl, _, _, rfl, _, _, rfl, rfl, ?_⟩
    refine ⟨_, rfl, p, dx, _, rfl, e4 _ _ hp2, rfl, _, rfl, p, b, .str xx.1, .str xx.1, rfl, hB2.up (UpL.of e4), .str _, fun ws hws l H5 x5 nl hl => ⟨.inl ⟨rfl, _, SqL.of hl⟩, l, _, .non, rfl, rfl, hl, ?_, ?_⟩, fun hn => by rw [wl] at hn; cases hn⟩
    · rw [wl] at hws
      obtain rfl := Option.some.inj hws
      rw [List.length_map]
      have : xx.2.length ≤ 1000 := by
        rcases List.mem_append.mp mem with z | z
        · obtain ⟨d, hd, e⟩ : ∃ d ∈ itemsD d0, d = sortD xx := ⟨_, by rw [R.i0]; exact List.mem_map_of_mem z, rfl⟩
          obtain ⟨k, hk⟩ := List.getElem?_of_mem hd
          have h1 := items_cnt hk
          rw [e] at h1
          have h2 : cnt (sortD xx) = 1 + (cntAll (xx.2.map PyData.str) + 1 + 0) + 1 := rfl
          have h3 := cntAll_len1 (xx.2.map PyData.str)
          rw [List.length_map] at h3
          omega
        · rw [List.mem_singleton.mp z]
          have h3 : b.reasons.length ≤ 900 := by rw [← List.length_map (f := V.str)]; exact lr3
          show b.reasons.length + 1 + 1 ≤ 1000
          omega
      omega
    have e5 : Ex H2 (upd H5 l (.lst (ws.map V.str ++ [V.non]))) := (e4.trans x5).mut (Evl.fresh_back e4 nl)
    generalize upd H5 l (.lst (ws.map V.str ++ [V.non])) = H6 at e5
    refine ⟨_, rfl, p, dx, _, rfl, e5 _ _ hp2, rfl, _, rfl, p, b, .str xx.1, .str xx.1, rfl, hB2.up (UpL.of e5), .str _, fun ws' hws' l' H7 x7 nl' hl' => ?_, fun hn => by rw [wl] at hn; cases hn⟩
    rw [wl] at hws'
    obtain rfl := Option.some.inj hws'
    have e7 := e5.trans x7
    refine ⟨_, rfl, c, _, rfl, .inr (Evl.ex_t e7 hc), fun l3 nl3 => ⟨.list (xx.2.map PyData.str), .list (xx.2.map PyData.str), .lst (SqL.of (Ex.new nl3 _ _ hl')) dp_strs, .lst (SqL.of upd_same) dp_strs, shw, shw, false, ?_, iteF ⟨⟨_, _, _, _, _, rfl⟩, e7.trans (Ex.new nl3)⟩⟩⟩
    rw [PySem.SeqAt.eqv_refl _ (SeqAt.canLay_of_shaped shw)]
    rfl
  rintro σ H4 ⟨⟨y4', y5', y6', y7, y8, rfl⟩, e4⟩
  have D4 := DU.ex e4
  have ls1 : s1.length ≤ 900 := by rw [Paired.length DU.r1, ← Paired.length P1, l1]; omega
  have cl : ∀ {i : Nat} {x : Str × Nat}, b.prims[i]? = some x → cLook b (.str x.1) = some x.2 := fun {i x} hx => by
    show (b.prims.find? fun p => decide (p.1 = x.1)).map (·.2) = some x.2
    rw [find_nodup R.n1 (List.mem_of_getElem? hx)]
    rfl
  have lp : b.prims.length = s1.length := (Paired.length DU.r1).symm
  refine ⟨_, rfl, U, _, 1, .ref u1, rfl, rfl, SqL.of D4.u, atI_nat (j := 1) rfl, u1, rfl, ⟨_, SqL.of D4.h1⟩, fun A nA => ?_⟩
  refine lc_it (walk_list (K := K) (a := u1) (xs := s1)) (fun i H' => Ex H4 H' ∧ H' A = some (.lst ((b.prims.take i).map fun x => V.int (x.2 : Int)))) ⟨Ex.new nA, upd_same⟩ (fun i H' _ h => SqL.of ((e4.trans h.1) _ _ DU.h1)) ?_ ?_
  · rintro i x _ H5 hi ⟨e5, hA⟩ ⟨rfl, hx⟩
    obtain ⟨xx, hxx, ra, rfl, hra⟩ := pairedAt DU.r1 hx
    have e25 := e4.trans e5
    refine ⟨ra, _, rfl, Evl.ex_t e25 hra, rfl, _, _, rfl, _, _, rfl, rfl, rfl, _, rfl, p, dx, _, rfl, e25 _ _ hp2, rfl, _, rfl, p, b, .str xx.1, .str xx.1, rfl, hB2.up (UpL.of e25), .str _, fun n hn H6 x6 => ⟨_, x6 _ _ hA, ?_, (e5.trans x6).mut nA, ?_⟩, fun hn => by rw [cl hxx] at hn; cases hn⟩
    · rw [List.length_map, List.length_take]
      omega
    · rw [cl hxx] at hn
      obtain rfl := Option.some.inj hn
      rw [upd_same, take_succ (fun x : Str × Nat => V.int (x.2 : Int)) hxx]
  rintro H5 ⟨e5, hA⟩
  rw [← lp, List.take_length] at hA
  have e25 := e4.trans e5
  have D5 := DU.ex e25
  refine ⟨_, rfl, U, _, 1, .ref u1, rfl, rfl, SqL.of D5.u, atI_nat (j := 1) rfl, u1, rfl, ⟨_, SqL.of D5.h1⟩, fun A2 nA2 => ?_⟩
  refine lc_it (walk_list (K := K) (a := u1) (xs := s1)) (fun i H' => Ex H5 H' ∧ H' A2 = some (.lst ((b.prims.take i).map fun x => V.int (x.2 : Int)))) ⟨Ex.new nA2, upd_same⟩ (fun i H' _ h => SqL.of ((e25.trans h.1) _ _ DU.h1)) ?_ ?_
  · rintro i x _ H6 hi ⟨e6, hA2⟩ ⟨rfl, hx⟩
    obtain ⟨xx, hxx, ra, rfl, hra⟩ := pairedAt DU.r1 hx
    refine ⟨ra, _, rfl, Evl.ex_t (e25.trans e6) hra, rfl, _, _, rfl, _, _, rfl, rfl, rfl, _, rfl, _, hA2, ?_, e6.mut nA2, ?_⟩
    · rw [List.length_map, List.length_take]
      omega
    · rw [upd_same, take_succ (fun x : Str × Nat => V.int (x.2 : Int)) hxx]
  rintro H6 ⟨e6, hA2⟩
  rw [← lp, List.take_length] at hA2
  obtain ⟨g1, g2⟩ := lay_ints b.prims
  have shi : SeqAt.shaped (.list (b.prims.map fun x => PyData.int (x.2 : Int))) = true := by
    show (PyData.canLayAll0 (b.prims.map fun x => PyData.int (x.2 : Int)) && decide (PyData.depthAll (b.prims.map fun x => PyData.int (x.2 : Int)) + 1 ≤ 64)) = true
    rw [g1, decide_eq_true (show PyData.depthAll (b.prims.map fun x => PyData.int (x.2 : Int)) + 1 ≤ 64 by omega)]
    rfl
  refine ⟨.list (b.prims.map fun x => PyData.int (x.2 : Int)), .list (b.prims.map fun x => PyData.int (x.2 : Int)), .lst (SqL.of (e6 _ _ hA)) dp_ints, .lst (SqL.of hA2) dp_ints, shi, shi, ?_⟩
  rw [PySem.SeqAt.eqv_refl _ (SeqAt.canLay_of_shaped shi)]
  exact q H6 ((e02.trans e25).trans e6)
end
end L2.Vf.K01
/-! Whether right parts are small. -/
namespace L2.Vf.K01
open PySem PySem.Spec PyProof.Rows
open Evl (Ex Ev EvT EvL EvA)
abbrev s__law_is_small : Stmt := top 47
def spIsSmall (K : PySem.W.Frag) (w : World) : Sp := fun vs H Q _ => ∃ (a : Addr) (b : Bk), vs = [.ref a] ∧ FourR K w H a b ∧ ∀ t H', Ex H H' → Q (.bl t) H'
section
variable {P : Program} {w : World} {K : PySem.W.Frag} {mg : Str → Option Value} {base : Heap} {f : Addr} {fd : FuncData}
abbrev n__law_is_small : List Str := ["_law_parts", "_law_name", "_law_words"]
theorem sc__law_is_small : FnScope n__law_is_small ["_law_parts"] (defScope s__law_is_small) := ⟨rfl, rfl, rfl, by decide +kernel, rfl, by decide +kernel, by decide +kernel⟩
theorem ok_is_small (F : Fun K "_law_is_small" "_law_is_small" s__law_is_small f fd) (m_len : mg "len" = none) : FnOk P w K mg base CX0 1 f fd ["_law_parts"] (spIsSmall K w) := by
  refine F.ok sc__law_is_small (fun vs H Q E h => ?_) (fun cdv A outer s H vs Q E hr h => ?_)
  · obtain ⟨a, b, rfl, _⟩ := h
    rfl
  obtain ⟨a, b, rfl, ⟨bb, xs, d0, d1, d2, d3, hs, ha, R, sm, cn⟩, q⟩ := h
  refine ⟨_, (pss_cons (ps_if (PW.pt (pw_or (pt_cmpR op_gt (pe_callB (call_lenK (K := K)) (by rfl) m_len PySem.boot_len (pa_cons (pe_ix (ix_seqK (K := K)) (pv 0) pe_int (fun _ _ => rfl)) pa_nil)) pe_int (nomark _)) (pw_or (pt_cmpR op_gt (pe_callB (call_lenK (K := K)) (by rfl) m_len PySem.boot_len (pa_cons (pe_ix (ix_seqK (K := K)) (pv 0) pe_int (fun _ _ => rfl)) pa_nil)) pe_int (nomark _)) (pw_or (pt_cmpR op_gt (pe_callB (call_lenK (K := K)) (by rfl) m_len PySem.boot_len (pa_cons (pe_ix (ix_seqK (K := K)) (pv 0) pe_int (fun _ _ => rfl)) pa_nil)) pe_int (nomark _)) (pw_or1 (pt_cmpR op_gt (pe_callB (call_lenK (K := K)) (by rfl) m_len PySem.boot_len (pa_cons (pe_ix (ix_seqK (K := K)) (pv 0) pe_int (fun _ _ => rfl)) pa_nil)) pe_int (nomark _)))))))
  (pss_one (ps_ret pe_bl))
  pss_nil)
  (pss_one (ps_ret (pe_cmpR (op_eqDK (K := K) hr.units) (pe_lc (own := [("_law_name", 1), ("_law_words", 2)]) (g := gTup K 2 (gCons (gName 1) (gCons (gName 2) (gNil)))) (tt := _) rfl sc__law_is_small.nd (pi_sqB (pe_ix (ix_seqK (K := K)) (pv 0) pe_int (fun _ _ => rfl))) (blkOk_by (N := n__law_is_small) (sc := defScope s__law_is_small) (by decide +kernel)) (fun _ _ _ _ _ => (pg_tup rfl (pgs_cons (pg_name (i := 1) sc__law_is_small.nd rfl (.inl rfl)) (pgs_cons (pg_name (i := 2) sc__law_is_small.nd rfl (.inl rfl)) pgs_nil)))) (fun _ _ _ _ _ => pts_one (pt_cmpR op_gt (pe_callB (call_lenK (K := K)) (by rfl) m_len PySem.boot_len (pa_cons (pv 2) pa_nil)) pe_int (nomark _))) (fun _ _ _ _ _ => pe_int)) (pe_lst pa_nil) (nomark _))))), ?_⟩
  have sz : sizeLine = 16777216 := sizeLine_eq
  have cn' : cnt d0 + (cnt d1 + (cnt d2 + (cnt d3 + 0))) ≤ 800 := cn
  have n0 := items_len d0
  cases ha with
  | @cons w0 xs1 _ _ D0 ha =>
  cases ha with
  | @cons w1 xs2 _ _ D1 ha =>
  cases ha with
  | @cons w2 xs3 _ _ D2 ha =>
  cases ha with
  | @cons w3 xs4 _ _ D3 ha =>
  cases ha
  obtain ⟨a0, b0, ys0, rfl, hs0, ha0⟩ := dw_seq D0 R.l0
  obtain ⟨a1, b1, ys1, rfl, hs1, ha1⟩ := dw_seq D1 R.l1
  obtain ⟨a2, b2, ys2, rfl, hs2, ha2⟩ := dw_seq D2 R.l2
  obtain ⟨a3, b3, ys3, rfl, hs3, ha3⟩ := dw_seq D3 R.l3
  have l0 := dwAll_len ha0
  rw [R.i0] at ha0
  have S0 : Paired (SortV K H) ys0 b.sorts := paired_of (F := SortV K H) (g := sortD) (fun v x h => sort_of h) ha0
  have no := q false H (Ex.refl H)
  refine ⟨_, rfl, rIx_go (k := 0) hs rfl ⟨a0, ys0, rfl, hs0.lenS, _, _, rfl, rfl, _, rfl, ite2 (fun _ => iteT no) (fun _ => ⟨_, rfl, rIx_go (k := 1) hs rfl ⟨a1, ys1, rfl, hs1.lenS, _, _, rfl, rfl, _, rfl, ite2 (fun _ => iteT no) (fun _ => ⟨_, rfl, rIx_go (k := 2) hs rfl ⟨a2, ys2, rfl, hs2.lenS, _, _, rfl, rfl, _, rfl, ite2 (fun _ => iteT no) (fun _ => ⟨_, rfl, rIx_go (k := 3) hs rfl ⟨a3, ys3, rfl, hs3.lenS, _, _, rfl, rfl, _, rfl, ite2 (fun _ => no) (fun _ => ?_)⟩⟩)⟩⟩)⟩⟩)⟩⟩
  refine ⟨_, rfl, rIx_go (k := 0) hs rfl ⟨a0, b0, ys0, rfl, hs0, fun A nA => ?_⟩⟩
  refine lc_it (walk_b (K := K) (b := b0) (a := a0) (xs := ys0)) (fun i H' => Ex H H' ∧ ∃ m, m ≤ i ∧ H' A = some (.lst (List.replicate m (V.int 1)))) ⟨Ex.new nA, 0, Nat.le_refl _, upd_same⟩ (fun i H' _ h => hs0.mono h.1) ?_ ?_
  · rintro i x _ H5 hi ⟨e5, m, hm, hA⟩ ⟨rfl, hx⟩
    obtain ⟨xx, hxx, ra, c, rfl, hra, hc⟩ := pairedAt S0 hx
    refine ⟨ra, _, rfl, Evl.ex_t e5 hra, rfl, _, _, rfl, _, _, rfl, rfl, rfl, _, rfl, c, _, rfl, .inr (Evl.ex_t e5 hc), _, _, rfl, rfl, _, rfl, ite2 (fun _ => ⟨_, hA, ?_, e5.mut nA, m + 1, Nat.succ_le_succ hm, ?_⟩) (fun _ => ⟨e5, m, Nat.le_succ_of_le hm, hA⟩)⟩
    · rw [List.length_replicate]
      omega
    · rw [upd_same, List.replicate_succ']
  rintro H5 ⟨e5, m, hm, hA⟩
  have ones : ∀ (G : Hp) (n : Nat), DpAll K G (List.replicate n (V.int 1)) (List.replicate n (PyData.int 1)) := fun G n => by
    induction n with
    | zero => exact .nil
    | succ n ih => exact .cons (.int 1) ih
  obtain ⟨g1, g2⟩ := lay_all (ds := List.replicate m (PyData.int 1)) (n := 0) fun d hd => by
    rw [List.eq_of_mem_replicate hd]
    exact ⟨rfl, Nat.le_refl _⟩
  have shi : SeqAt.shaped (.list (List.replicate m (PyData.int 1))) = true := by
    show (PyData.canLayAll0 (List.replicate m (PyData.int 1)) && decide (PyData.depthAll (List.replicate m (PyData.int 1)) + 1 ≤ 64)) = true
    rw [g1, decide_eq_true (show PyData.depthAll (List.replicate m (PyData.int 1)) + 1 ≤ 64 by omega)]
    rfl
  refine ⟨Nat.zero_le _, fun B nB => ⟨.list (List.replicate m (PyData.int 1)), .list [], .lst (SqL.of (Ex.new nB _ _ hA)) (ones _ m), .lst (SqL.of upd_same) .nil, shi, rfl, q _ _ (e5.trans (Ex.new nB))⟩⟩
end
end L2.Vf.K01
/-! t[::-1] of a tuple: the new tuple's object is told. -/
namespace L2.Vf
open PySem PySem.Spec PyProof.Rows HT
def tRevF (K : PySem.W.Frag) (te : TE) : TE := fun σ H Q => te σ H fun x H1 => ∃ a xs, x = .ref a ∧ SqT K H1 a xs ∧ ∀ p its, Vals xs.reverse its → H1 p = none → Q (.ref p) (upd H1 p (.frz (tupO its) (.tup xs.reverse)))
theorem pe_revF {X : Cx} {K : PySem.W.Frag} {e : Expr} {te : TE} {k : Nat} {p1 p2 p3 pos : Pos} (he : PE X e te) (hK : X.K = K := by rfl) : PE X (.Subscript e (.Slice none none (some (.UnaryOp .USub (.Constant (.int 1) k p1) p2)) p3) pos) (tRevF K te) := by
  subst hK
  refine ⟨fun pins s σ H Q I h => ?_⟩
  refine Subscript_ (thn (he.run pins s σ H _ I h) fun v s1 ⟨x, H1, I1, r1, q1⟩ => ?_)
  obtain ⟨a, xs, ex, hx, q⟩ := q1
  subst ex
  cases r1
  have hst : PO X (some (.UnaryOp .USub (.Constant (.int 1) k p1) p2)) (tPart (tUn (rU fun i => .int (-i)) (tC (.int 1)))) := po_some (pe_un un_neg pe_int)
  refine wpAny_Slice (thn (po_none.run pins s1 σ H1 (fun o H2 => o = none ∧ H2 = H1) I1 ⟨rfl, rfl⟩) fun vl s2 ⟨l, H2, I2, pl, el, e2⟩ => ?_)
  subst el e2
  refine thn (po_none.run pins s2 σ H2 (fun o H3 => o = none ∧ H3 = H2) I2 ⟨rfl, rfl⟩) fun vu s3 ⟨u, H3, I3, pu, eu, e3⟩ => ?_
  subst eu e3
  refine thn (hst.run pins s3 σ H3 (fun o H4 => o = some (-1) ∧ H4 = H3) I3 ⟨1, rfl, -1, rfl, rfl, rfl⟩) fun vs s4 ⟨o, H4, I4, ps, eo, e4⟩ => ?_
  subst eo e4
  have I5 : Inv X pins σ H4 { s4 with heap := s4.heap.push { cls := .type "slice", data := .fields #[vl, vu, vs] } } := I4.kept (t' := s4.toks) fun b ob q => Heap.get?_push_of_some _ q
  obtain ⟨its, r, ht, hz⟩ := I5.tuple hx
  have hlen : its.toArray.size = xs.length := by rw [List.size_toArray]; exact r.length.symm
  show wpAny (model X.prog X.w) X.A (subscriptTail e (.Slice none none (some (.UnaryOp .USub (.Constant (.int 1) k p1) p2)) p3) (.ref a) (.ref s4.heap.objs.size)) (EP X pins σ Q) X.xe { s4 with heap := s4.heap.push { cls := .type "slice", data := .fields #[vl, vu, vs] } }
  refine tail_any (ops := [.ref a, .ref s4.heap.objs.size]) ht.typeIs (PyProof.Rows.slot_tuple_getitem.lookup) ?_ (by with_unfolding_all rfl)
  refine getItem_tuple_rev ht (Heap.IsSliceOf.new _ vl vu vs) pl pu ps ?_ (by rw [hlen]; exact hz)
  refine ⟨.ref _, _, I5.laid (t' := s4.toks) (o := .frz (tupO its.reverse) (.tup xs.reverse)) (fun b ob q => Heap.get?_push_of_some _ q) (Nat.le_refl _) ?_, rfl, q _ _ r.reverse (I5.hok.fresh (Nat.le_refl _))⟩
  exact (show ObjOk X.prog X.w _ _ _ (.frz (tupO its.reverse) (.tup xs.reverse)) from ⟨Heap.get?_push_size _ rfl, by rw [List.length_reverse]; exact hz, _, r.reverse, IsTup.new _ _⟩)
end L2.Vf
/-! [.. for .. in .. if ..] as a value: the new list is not the module table. -/
namespace L2.Vf
open PySem PySem.Spec PyProof.Rows
section
variable {X : Cx} {elt tg iter : Expr} {ifs : List Expr} {scope : Scope} {own : List (Str × Nat)} {pos : Pos} {wi : TI} {g : TG} {tt : TT} {te : TE}
theorem pe_lcN (hc : X.calm = true) (hN : X.N.Nodup) (hi : PI X tg iter wi) (ok : BlkOk X.N X.env.scope scope own)
    (hg : ∀ (s : Shared) (H : Hp) (C : Addr) (cl : List (Str × Addr)) (fp : List Addr), PG (X.blk s H scope (compEnvC scope cl C X.env) fp) tg g)
    (ht : ∀ (s : Shared) (H : Hp) (C : Addr) (cl : List (Str × Addr)) (fp : List Addr), PTs (X.blk s H scope (compEnvC scope cl C X.env) fp) ifs tt)
    (he : ∀ (s : Shared) (H : Hp) (C : Addr) (cl : List (Str × Addr)) (fp : List Addr), PE (X.blk s H scope (compEnvC scope cl C X.env) fp) elt te)
    (hs : ∀ x, foldedSetIterable iter X.env x = pure x := by intro _; rfl) :
    PE X (.ListComp elt [⟨tg, iter, ifs, 0⟩] scope pos) (tLcN wi g tt te (own.map (·.2))) := by
  refine ⟨fun pins s σ H Q I h => ?_⟩
  rw [eval_ListComp]
  refine lcN_core hc hN I hi ok hg ht he hs h fun D C s' m H' I' q hn f => ⟨m, hn, fun h'' sb => ?_⟩
  obtain ⟨f0, f1, f2, f3, f4, f5⟩ := f
  exact ⟨.ref D, H', I'.turned (t' := s'.toks) (fun b o hb e => (sb.2 b hb).trans e) f0 f1 f3 f4 f5, rfl, q⟩
end
end L2.Vf
/-! Parts turned. -/
namespace L2.Vf.K01
open PySem PySem.Spec PyProof.Rows
open Evl (Ex Ev EvT EvL EvA)
abbrev s__law_turned : Stmt := top 46
theorem cnt_rev : ∀ ds : List PyData, cntAll ds.reverse = cntAll ds
  | [] => rfl
  | d :: ds => by
    rw [List.reverse_cons, cnt_app, cnt_rev ds]
    show cntAll ds + (cnt d + 0) = cnt d + cntAll ds
    omega
theorem sm_rev : ∀ ds : List PyData, smAll ds.reverse = smAll ds
  | [] => rfl
  | d :: ds => by
    rw [List.reverse_cons, sm_app, sm_rev ds]
    show (smAll ds && (smD d && true)) = (smD d && smAll ds)
    rw [Bool.and_true, Bool.and_comm]
theorem DfAll.rev {K : PySem.W.Frag} {w : World} {H : Hp} : ∀ {vs : List V} {ds : List PyData}, DfAll K w H vs ds → DfAll K w H vs.reverse ds.reverse
  | _, _, .nil => .nil
  | _, _, .cons g h => by
    rw [List.reverse_cons, List.reverse_cons]
    exact (DfAll.rev h).app (.cons g .nil)
/-- a sort, its words the other way round -/
def revD (x : Str × List Str) : PyData := .tuple [.str x.1, .tuple (x.2.map PyData.str).reverse]
theorem cnt_revD : ∀ xs : List (Str × List Str), cntAll (xs.map revD) = cntAll (xs.map sortD)
  | [] => rfl
  | x :: xs => by
    show cnt (revD x) + cntAll (xs.map revD) = cnt (sortD x) + cntAll (xs.map sortD)
    rw [cnt_revD xs]
    have h1 : cnt (revD x) = 1 + (cntAll (x.2.map PyData.str).reverse + 1 + 0) + 1 := rfl
    have h2 : cnt (sortD x) = 1 + (cntAll (x.2.map PyData.str) + 1 + 0) + 1 := rfl
    rw [h1, h2, cnt_rev]
theorem sm_revD : ∀ xs : List (Str × List Str), smAll (xs.map revD) = smAll (xs.map sortD)
  | [] => rfl
  | x :: xs => by
    show (smD (revD x) && smAll (xs.map revD)) = (smD (sortD x) && smAll (xs.map sortD))
    rw [sm_revD xs]
    have h1 : smD (revD x) = (strSm x.1 && (smAll (x.2.map PyData.str).reverse && true)) := rfl
    have h2 : smD (sortD x) = (strSm x.1 && (smAll (x.2.map PyData.str) && true)) := rfl
    rw [h1, h2, sm_rev]
theorem df_same {K : PySem.W.Frag} {w : World} {H H' : Hp} : ∀ {ws : List V} {ys : List Str}, DfAll K w H ws (ys.map PyData.str) → DfAll K w H' ws (ys.map PyData.str)
  | _, [], h => by cases h; exact .nil
  | _, y :: ys, h => by
    cases h with
    | cons g1 g2 =>
      cases g1
      exact .cons (.str _) (df_same g2)
theorem four_list {b : Bk} {j : Nat} {d : PyData} (h : [dS b, dP b, dO b, dR b][j]? = some d) : ∃ es, d = .list es := by
  have m := List.mem_of_getElem? h
  simp only [List.mem_cons, List.not_mem_nil, or_false] at m
  rcases m with rfl | rfl | rfl | rfl
  · exact ⟨_, rfl⟩
  · exact ⟨_, rfl⟩
  · exact ⟨_, rfl⟩
  · exact ⟨_, rfl⟩
def spTurned (K : PySem.W.Frag) (w : World) : Sp := fun vs H Q _ => ∃ (p c a : Addr) (b : Bk), vs = [.ref p, .ref a] ∧ Src2 H p c ∧ Df K w (hide [p, c] H) (.ref a) (.list [dS b, dP b, dO b, dR b]) ∧ smAll [dS b, dP b, dO b, dR b] = true ∧ cntAll [dS b, dP b, dO b, dR b] ≤ 500 ∧
  ∀ r d H', Src2 H' p c → But [p, c] H H' → Df K w (hide [p, c] H') (.ref r) d → smD d = true → cnt d ≤ cntAll [dS b, dP b, dO b, dR b] + 1 → Q (.ref r) H'
section
variable {P : Program} {w : World} {K : PySem.W.Frag} {mg : Str → Option Value} {base : Heap} {f : Addr} {fd : FuncData}
abbrev n__law_turned : List Str := ["_law_source_here", "_law_parts", "_law_at", "_law_name", "_law_words"]
theorem sc__law_turned : FnScope n__law_turned ["_law_source_here", "_law_parts"] (defScope s__law_turned) := ⟨rfl, rfl, rfl, by decide +kernel, rfl, by decide +kernel, by decide +kernel⟩
theorem ok_turned (F : Fun K "_law_turned" "_law_turned" s__law_turned f fd) (hp : Has P w K mg base 1 "_law_pick" ["_law_source_here", "_law_many"] spPick2) : FnOk P w K mg base CX0 2 f fd ["_law_source_here", "_law_parts"] (spTurned K w) := by
  obtain ⟨f1, fd1, G__law_pick, m__law_pick, k__law_pick, b__law_pick⟩ := hp
  refine F.ok sc__law_turned (fun vs H Q E h => ?_) (fun cdv A outer s H vs Q E hr h => ?_)
  · obtain ⟨p, c, a, b, rfl, _⟩ := h
    rfl
  obtain ⟨p, c, a, b, rfl, hS, hd, sm, cn, q⟩ := h
  refine ⟨_, (pss_cons (ps_set (i := 2) sc__law_turned.nd rfl (.inl rfl) (pe_call G__law_pick (hr.mono (by omega)) (by rfl) m__law_pick k__law_pick b__law_pick .nil pass0 (pa_cons (pv 0) (pa_cons pe_int pa_nil))))
  (pss_cons (ps_if (pt_cmpR op_lt (pv 2) pe_int (nomark _))
  (pss_one (ps_ret (pe_op op_catN (pe_op op_catN (pe_slice (sl_listN (K := K)) (pv 1) po_none (po_some (pv 2))) (pe_lstN (pa_cons (pe_revLN (pe_ix (ix_listK (K := K)) (pv 1) (pv 2) (fun _ _ => rfl))) pa_nil))) (pe_slice (sl_listN (K := K)) (pv 1) (po_some (pe_op op_add (pv 2) pe_int)) po_none))))
  pss_nil)
  (pss_one (ps_ret (pe_op op_catN (pe_lstN (pa_cons (pe_lcN (own := [("_law_name", 3), ("_law_words", 4)]) (g := gTup K 2 (gCons (gName 3) (gCons (gName 4) (gNil)))) (tt := _) (te := tTupF (tCons (tVar 3) (tCons (tRevF K (tVar 4)) tNil))) rfl sc__law_turned.nd (pi_list (pe_ix (ix_listK (K := K)) (pv 1) pe_int (fun _ _ => rfl))) (blkOk_by (N := n__law_turned) (sc := defScope s__law_turned) (by decide +kernel)) (fun _ _ _ _ _ => (pg_tup rfl (pgs_cons (pg_name (i := 3) sc__law_turned.nd rfl (.inl rfl)) (pgs_cons (pg_name (i := 4) sc__law_turned.nd rfl (.inl rfl)) pgs_nil)))) (fun _ _ _ _ _ => pts_nil) (fun _ _ _ _ _ => (pe_tupF (pa_cons (pv 3) (pa_cons (pe_revF (K := K) (pv 4)) pa_nil))))) pa_nil)) (pe_slice (sl_listN (K := K)) (pv 1) (po_some pe_int) po_none)))))), ?_⟩
  have sz : sizeLine = 16777216 := sizeLine_eq
  generalize hds : [dS b, dP b, dO b, dR b] = ds at hd sm cn q
  have len4 : ds.length = 4 := by rw [← hds]; rfl
  cases hd with
  | @lst _ xs _ hm hl ha =>
  have lx := ha.len
  refine ⟨_, rfl, p, c, 5, rfl, hS, by decide, by decide, fun r H1 r0 r5 S1 b1 => ?_⟩
  obtain ⟨j, rfl⟩ := Int.eq_ofNat_of_zero_le r0
  have k1 := S1.kn
  have D1 : Df K w (hide [p, c] H1) (.ref a) (.list ds) := (Df.lst hm hl ha).ex b1
  have l1 : SqL K H1 a xs := Evl.ex_l hide_ex (SqL.of (b1 _ _ hl))
  have ha1 := ha.ex b1
  refine ⟨_, rfl, _, _, rfl, rfl, _, rfl, ite2 (fun z => ?_) (fun z => ?_)⟩
  · have hj4 : j < 4 := by have := of_decide_eq_true z; omega
    obtain ⟨vj, hvj⟩ : ∃ vj, xs[j]? = some vj := ⟨_, List.getElem?_eq_getElem (by omega)⟩
    obtain ⟨dj, hdj, Dj⟩ := ha1.at_ hvj
    obtain ⟨es, rfl⟩ := four_list (b := b) (by rw [hds]; exact hdj)
    have smj := sm_at sm hdj
    have old := cnt_split ds j
    have old2 : cntAll (ds.drop j) = cnt (PyData.list es) + cntAll (ds.drop (j + 1)) := by
      rw [List.drop_eq_getElem_cons (List.getElem?_eq_some_iff.mp hdj).1, (List.getElem?_eq_some_iff.mp hdj).2]
      rfl
    have cj : cnt (PyData.list es) = cntAll es + 1 := rfl
    refine ⟨_, rfl, _, rfl, _, rfl, ?_⟩
    refine slN_df' k1 D1 sm fun q0 H2 e2 N0 => ?_
    have k2 := k1.ex e2
    refine ⟨_, rfl, _, rfl, a, xs, _, vj, rfl, rfl, Evl.ex_l e2 l1, atI_nat hvj, ?_⟩
    have Dj2 := Dj.ex (exHide e2)
    cases Dj2 with
    | @lst a2 ys _ hm2 hl2 ha2 =>
    refine ⟨a2, ys, rfl, Evl.ex_l hide_ex (SqL.of hl2), fun r3 nr3 mr3 => ?_⟩
    have e3 := Ex.new (o := HO.lst ys.reverse) nr3
    have N3 := newL k2 nr3 mr3 ha2.rev
    have k3 := k2.ex e3
    dsimp only [tNil]
    refine ⟨(by show (1 : Nat) ≤ sizeLine; omega), fun t nt mt => ?_⟩
    have e4 := Ex.new (o := HO.lst [V.ref r3]) nt
    have k4 := k3.ex e4
    refine catN_df k4 (N0.ex (exHide (e3.trans e4))) (newL k3 nt mt (.cons N3 .nil)) (by rw [List.length_take]; show _ + 1 ≤ 16777216; omega) fun q1 H5 e5 N1 => ⟨_, rfl, _, rfl, _, _, rfl, rfl, _, rfl, ?_⟩
    have k5 := k4.ex e5
    have e15 := ((e2.trans e3).trans e4).trans e5
    dsimp only [tNoPart]
    refine slN_df'' k5 (D1.ex (exHide e15)) sm fun q2 H6 e6 N2 => ?_
    have k6 := k5.ex e6
    refine catN_df k6 (N1.ex (exHide e6)) N2 (by rw [List.length_append, List.length_take, List.length_drop]; show _ + 1 + _ ≤ 16777216; omega) fun q3 H7 e7 N3' => ?_
    have e17 := (e15.trans e6).trans e7
    refine q q3 _ H7 (S1.ex e17) (b1.trans (But.of e17)) N3' ?_ ?_
    · show smAll ((ds.take j ++ [PyData.list es.reverse]) ++ ds.drop (j + 1)) = true
      rw [sm_app, sm_app, (sm_split j sm).1, (sm_split (j + 1) sm).2]
      show (true && (smAll es.reverse && true) && true) = true
      rw [sm_rev, show smAll es = true from smj]
      rfl
    · show cntAll ((ds.take j ++ [PyData.list es.reverse]) ++ ds.drop (j + 1)) + 1 ≤ cntAll ds + 1
      rw [cnt_app, cnt_app]
      show cntAll (ds.take j) + (cntAll es.reverse + 1 + 0) + cntAll (ds.drop (j + 1)) + 1 ≤ _
      rw [cnt_rev]
      omega
  · dsimp only [tNext]
    obtain ⟨v0, hv0⟩ : ∃ v0, xs[0]? = some v0 := ⟨_, List.getElem?_eq_getElem (by omega)⟩
    obtain ⟨d0, hd0, D0⟩ := ha1.at_ hv0
    have e0 : d0 = dS b := by
      rw [← hds] at hd0
      exact (Option.some.inj hd0).symm
    subst e0
    have sm0 := sm_at sm hd0
    cases D0 with
    | @lst a0 ys _ hm0 hl0 ha0 =>
    have ly := ha0.len
    rw [List.length_map] at ly
    have c0 : cntAll ds = cnt (dS b) + cntAll (ds.drop 1) := by
      rw [← hds]
      rfl
    have cS : cnt (dS b) = cntAll (b.sorts.map sortD) + 1 := rfl
    have cl := cntAll_len1 (b.sorts.map sortD)
    rw [List.length_map] at cl
    refine ⟨_, rfl, a, xs, 0, _, rfl, rfl, l1, atI_nat (j := 0) hv0, a0, rfl, ⟨_, Evl.ex_l hide_ex (SqL.of hl0)⟩, fun D nD mD => ?_⟩
    have nDS := k1.off nD
    refine lc_it (walk_list (K := K) (a := a0) (xs := ys)) (fun i H' => Ex H1 H' ∧ ∃ vs, H' D = some (.lst vs) ∧ DfAll K w (hide [D, p, c] H') vs ((b.sorts.take i).map revD)) ⟨Ex.new nD, [], upd_same, .nil⟩ (fun i H' _ h => Evl.ex_l h.1 (Evl.ex_l hide_ex (SqL.of hl0))) ?_ ?_
    · rintro i x _ H3 hi ⟨e3, vs, hD, da⟩ ⟨rfl, hx⟩
      obtain ⟨dx, hdx, Dx⟩ := (ha0.ex (exHide e3)).at_ hx
      rw [List.getElem?_map] at hdx
      obtain ⟨xx, hxx, rfl⟩ := Option.map_eq_some_iff.mp hdx
      cases Dx with
      | @tup ra _ _ ht hrow =>
      cases hrow with
      | cons h1 h2 =>
      cases h1
      cases h2 with
      | cons h2 h3 =>
      cases h3
      cases h2 with
      | @tup rc ws _ ht2 hws =>
      have k3 : Kn [D, p, c] H3 := kn_cons (k1.ex e3) hD
      refine ⟨ra, _, rfl, Evl.ex_t hide_ex ht.sq, rfl, _, _, rfl, _, _, rfl, rfl, rfl, _, rfl, _, rfl, rc, ws, rfl, Evl.ex_t hide_ex ht2.sq, fun t its hv nt => ?_⟩
      dsimp only [tNil]
      refine ⟨(by show (2 : Nat) ≤ sizeLine; omega), fun t2 its2 hv2 nt2 => ?_⟩
      have x5 := Ex.new (o := HO.frz (tupO its) (.tup ws.reverse)) nt
      have x6 := Ex.new (o := HO.frz (tupO its2) (.tup [V.str xx.1, V.ref t])) nt2
      have nDt : hide [D, p, c] H3 = hide [D, p, c] H3 := rfl
      have hws' := df_same (H' := hide [D, p, c] H3) hws
      have row := newTS (K := K) (w := w) (k3.ex x5) nt2 hv2 (.cons (.str xx.1) (.cons (newTS k3 nt hv hws'.rev) .nil))
      have hD6 := (x5.trans x6) _ _ hD
      have lvs := da.len
      refine ⟨vs, hD6, by rw [lvs, List.length_map, List.length_take]; omega, (e3.trans (x5.trans x6)).mut nD, vs ++ [V.ref t2], upd_same, ?_⟩
      rw [hide_inS List.mem_cons_self, List.take_succ, hxx, List.map_append]
      exact (DfAll.ex (exHide (x5.trans x6)) da).app (.cons row .nil)
    rintro H3 ⟨e3, vs, hD3, da3⟩
    rw [ly, List.take_length] at da3
    have k3 := k1.ex e3
    dsimp only [tNil]
    refine ⟨(by show (1 : Nat) ≤ sizeLine; omega), fun t nt mt => ?_⟩
    have e4 := Ex.new (o := HO.lst [V.ref D]) nt
    have k4 := k3.ex e4
    have ND : Df K w (hide [p, c] H3) (.ref D) (.list (b.sorts.map revD)) := .lst mD ((hide_off nDS).trans hD3) (DfAll.ex hide_less da3)
    have NL := newL k3 nt mt (.cons ND .nil)
    refine ⟨_, rfl, _, rfl, ?_⟩
    dsimp only [tNoPart]
    show rSlN K (.ref a) (some (((0 : Nat) : Int) + 1)) none _ _
    refine slN_df'' k4 (D1.ex (exHide (e3.trans e4))) sm fun q2 H6 e6 N2 => ?_
    have k6 := k4.ex e6
    refine catN_df k6 (NL.ex (exHide e6)) N2 (by rw [List.length_drop]; show 1 + _ ≤ 16777216; omega) fun q3 H7 e7 N3 => ?_
    have e17 := ((e3.trans e4).trans e6).trans e7
    refine q q3 _ H7 (S1.ex e17) (b1.trans (But.of e17)) N3 ?_ ?_
    · show smAll ([PyData.list (b.sorts.map revD)] ++ ds.drop (0 + 1)) = true
      rw [sm_app, (sm_split (0 + 1) sm).2]
      show (smAll (b.sorts.map revD) && true && true) = true
      rw [sm_revD, show smAll (b.sorts.map sortD) = true from sm0]
      rfl
    · show cntAll ([PyData.list (b.sorts.map revD)] ++ ds.drop (0 + 1)) + 1 ≤ cntAll ds + 1
      rw [cnt_app]
      show (cntAll (b.sorts.map revD) + 1 + 0) + cntAll (ds.drop 1) + 1 ≤ _
      rw [cnt_revD]
      omega
end
end L2.Vf.K01
/-! Drawn parts are right; what is right is so in one way. -/
namespace L2.Vf.K01
open PySem PySem.Spec PyProof.Rows
open Evl (Ex Ev EvT EvL EvA)
theorem newR_ok {x : Str} {seen : List Str} {path : List Int} (h : nameD (.str x) = true) (n : x ∉ seen) : newR (.str x) seen path = none := by
  show (if nameD (.str x) && !inV (.str x) (seen.map V.str) then none else some path) = (none : Option (List Int))
  rw [h, inV_str, decide_eq_false n]
  rfl
theorem not_take {α : Type} {g : α → Str} {xs : List α} {k : Nat} {x : α} (h : (xs.map g).Nodup) (e : xs[k]? = some x) : g x ∉ (xs.take k).map g := fun m => by
  obtain ⟨hk, ek⟩ := List.getElem?_eq_some_iff.mp e
  rw [← List.take_append_drop k xs, List.map_append, List.nodup_append] at h
  refine h.2.2 _ m (g x) ?_ rfl
  rw [List.drop_eq_getElem_cons hk, ek]
  exact List.mem_map_of_mem List.mem_cons_self
theorem word_ok {x : Str} {ds : List PyData} {path : List Int} {k : Nat} (h : wordT x = true) (n : x ∉ (ds.take k).map strOf) : wordR ds path k (.str x) = none := by
  show (if wordT x && !inV (.str x) (((ds.take k).map strOf).map V.str) then none else some (path ++ [(k : Int)])) = none
  rw [h, inV_str, decide_eq_false n]
  rfl
theorem sw_ok {ws : List Str} {path : List Int} (nd : ws.Nodup) (l : 1 ≤ ws.length) (h : ∀ y ∈ ws, wordT y = true) : swR (.tuple (ws.map .str)) path = none := by
  cases ws with
  | nil => cases l
  | cons y ys =>
    show scanR (wordR ((y :: ys).map PyData.str) path) 0 ((y :: ys).map PyData.str) = none
    refine scanR_none fun k d hk => ?_
    rw [Nat.zero_add]
    rw [List.getElem?_map] at hk
    obtain ⟨x, hx, rfl⟩ := Option.map_eq_some_iff.mp hk
    refine word_ok (h x (List.mem_of_getElem? hx)) ?_
    rw [← List.map_take, List.map_map]
    exact not_take (g := fun x => x) (by rw [List.map_id']; exact nd) hx
theorem nodup_map_id {xs : List Str} (h : xs.Nodup) : (xs.map fun x => x).Nodup := by
  rw [List.map_id']
  exact h
theorem plain_ok {n : Int} {xs : List Str} (nd : xs.Nodup) (h : ∀ x ∈ xs, nameD (.str x) = true) : plainR n (.list (xs.map .str)) = none := by
  show scanR (fun k x => newR x (((xs.map PyData.str).take k).map strOf) [n, (k : Int)]) 0 (xs.map PyData.str) = none
  refine scanR_none fun k d hk => ?_
  rw [Nat.zero_add]
  rw [List.getElem?_map] at hk
  obtain ⟨x, hx, rfl⟩ := Option.map_eq_some_iff.mp hk
  refine newR_ok (h x (List.mem_of_getElem? hx)) ?_
  rw [← List.map_take, List.map_map]
  exact not_take (g := fun x => x) (nodup_map_id nd) hx
theorem drawn_none {b : Bk} (h : Drawn b) : bookR (dS b) (dP b) (dO b) (dR b) = none := by
  have s : sortsR (dS b) = none := by
    show scanR (sortR (b.sorts.map sortD)) 0 (b.sorts.map sortD) = none
    refine scanR_none fun k d hk => ?_
    rw [Nat.zero_add]
    rw [List.getElem?_map] at hk
    obtain ⟨x, hx, rfl⟩ := Option.map_eq_some_iff.mp hk
    have m := List.mem_of_getElem? hx
    obtain ⟨w1, w2, w3, w4⟩ := h.w0 x m
    have e1 : newR (.str x.1) (((b.sorts.map sortD).take k).map nameAt) [0, (k : Int), 0] = none := by
      refine newR_ok (h.y0 x m).1 ?_
      rw [← List.map_take, List.map_map]
      exact not_take (g := fun x : Str × List Str => x.1) h.n0 hx
    have e2 : swR (.tuple (x.2.map PyData.str)) [0, (k : Int), 1] = none := sw_ok w1 w2 fun y hy => (w4 y hy).1
    show (match newR (.str x.1) (((b.sorts.map sortD).take k).map nameAt) [0, (k : Int), 0] with
      | some r => some r
      | none => swR (.tuple (x.2.map PyData.str)) [0, (k : Int), 1]) = none
    rw [e1]
    exact e2
  have p : primsR (dP b) = none := by
    show scanR (primR (b.prims.map primD)) 0 (b.prims.map primD) = none
    refine scanR_none fun k d hk => ?_
    rw [Nat.zero_add]
    rw [List.getElem?_map] at hk
    obtain ⟨x, hx, rfl⟩ := Option.map_eq_some_iff.mp hk
    have m := List.mem_of_getElem? hx
    obtain ⟨w1, w2, w3⟩ := h.y1 x m
    have e1 : newR (.str x.1) (((b.prims.map primD).take k).map nameAt) [1, (k : Int), 0] = none := by
      refine newR_ok w1 ?_
      rw [← List.map_take, List.map_map]
      exact not_take (g := fun x : Str × Nat => x.1) h.n1 hx
    show (match newR (.str x.1) (((b.prims.map primD).take k).map nameAt) [1, (k : Int), 0] with
      | some r => some r
      | none => if numD (.int (x.2 : Int)) && small3 (.int (x.2 : Int)) then none else some [1, (k : Int), 1]) = none
    rw [e1]
    have c1 : numD (.int (x.2 : Int)) = true := decide_eq_true (show (0 : Int) ≤ (x.2 : Int) by omega)
    have c2 : small3 (.int (x.2 : Int)) = true := decide_eq_true (show (x.2 : Int) ≤ 2 by omega)
    rw [c1, c2]
    rfl
  have o : plainR 2 (dO b) = none := plain_ok h.n2 fun x m => (h.y2 x m).1
  have r : plainR 3 (dR b) = none := plain_ok h.n3 fun x m => (h.y3 x m).1
  unfold bookR
  rw [s, p, o, r]
theorem map_inj {α β : Type} {f : α → β} (hf : ∀ a b, f a = f b → a = b) : ∀ {xs ys : List α}, xs.map f = ys.map f → xs = ys
  | [], [], _ => rfl
  | [], _ :: _, h => by cases h
  | _ :: _, [], h => by cases h
  | x :: xs, y :: ys, h => by
    rw [List.map_cons, List.map_cons] at h
    injection h with h1 h2
    rw [hf _ _ h1, map_inj hf h2]
theorem str_inj : ∀ a b : Str, PyData.str a = PyData.str b → a = b := fun a b h => by
  injection h
theorem sortD_inj : ∀ a b, sortD a = sortD b → a = b := fun a b h => by
  obtain ⟨a1, a2⟩ := a
  obtain ⟨b1, b2⟩ := b
  unfold sortD at h
  injection h with h
  injection h with h1 h
  injection h with h2 h
  injection h1 with h1
  injection h2 with h2
  have h3 := map_inj str_inj h2
  simp only at h1 h3
  rw [h1, h3]
theorem primD_inj : ∀ a b, primD a = primD b → a = b := fun a b h => by
  obtain ⟨a1, a2⟩ := a
  obtain ⟨b1, b2⟩ := b
  unfold primD at h
  injection h with h
  injection h with h1 h
  injection h with h2 h
  injection h1 with h1
  injection h2 with h2
  simp only at h1 h2
  rw [h1, Int.ofNat.inj h2]
theorem right_uniq {d0 d1 d2 d3 : PyData} {b b' : Bk} (h : Right d0 d1 d2 d3 b) (g : Right d0 d1 d2 d3 b') : b = b' := by
  obtain ⟨s, p, o, r⟩ := b
  obtain ⟨s', p', o', r'⟩ := b'
  have e0 : s = s' := map_inj sortD_inj (h.i0.symm.trans g.i0)
  have e1 : p = p' := map_inj primD_inj (h.i1.symm.trans g.i1)
  have e2 : o = o' := map_inj str_inj (h.i2.symm.trans g.i2)
  have e3 : r = r' := map_inj str_inj (h.i3.symm.trans g.i3)
  rw [e0, e1, e2, e3]
theorem drawn_right {b : Bk} (h : Drawn b) : Right (dS b) (dP b) (dO b) (dR b) b := by
  obtain ⟨b', R⟩ := right_of (drawn_none h)
  refine ⟨rfl, rfl, rfl, rfl, rfl, rfl, rfl, rfl, h.n0, ?_, h.n1⟩
  have e0 : b.sorts = b'.sorts := map_inj sortD_inj R.i0
  rw [e0]
  exact R.y0
theorem sm_of : ∀ {ds : List PyData}, (∀ d ∈ ds, smD d = true) → smAll ds = true
  | [], _ => rfl
  | d :: ds, h => by
    show (smD d && smAll ds) = true
    rw [h d List.mem_cons_self, sm_of fun e he => h e (List.mem_cons_of_mem _ he)]
    rfl
theorem cnt_of {n : Nat} : ∀ {ds : List PyData}, (∀ d ∈ ds, cnt d ≤ n) → cntAll ds ≤ n * ds.length
  | [], _ => Nat.zero_le _
  | d :: ds, h => by
    show cnt d + cntAll ds ≤ n * (ds.length + 1)
    have h1 := h d List.mem_cons_self
    have h2 := cnt_of (n := n) fun e he => h e (List.mem_cons_of_mem _ he)
    rw [Nat.mul_succ]
    omega
theorem cnt_strs : ∀ xs : List Str, cntAll (xs.map PyData.str) = xs.length
  | [] => rfl
  | x :: xs => by
    show 1 + cntAll (xs.map PyData.str) = xs.length + 1
    rw [cnt_strs xs]
    omega
theorem sm_strsA {xs : List Str} (h : ∀ x ∈ xs, strSm x = true) : smAll (xs.map PyData.str) = true := sm_of fun d hd => by
  obtain ⟨x, hx, rfl⟩ := List.mem_map.mp hd
  exact h x hx
theorem sm_small {n : Nat} (h : n < 3) : smD (.int (n : Int)) = true := by
  have : n = 0 ∨ n = 1 ∨ n = 2 := by omega
  rcases this with rfl | rfl | rfl <;> decide +kernel
theorem drawn_sm {b : Bk} (h : Drawn b) : smAll [dS b, dP b, dO b, dR b] = true := by
  show (smAll (b.sorts.map sortD) && (smAll (b.prims.map primD) && (smAll (b.ports.map PyData.str) && (smAll (b.reasons.map PyData.str) && true)))) = true
  rw [sm_strsA fun x hx => (h.y2 x hx).2, sm_strsA fun x hx => (h.y3 x hx).2, sm_of (ds := b.sorts.map sortD), sm_of (ds := b.prims.map primD)]
  · rfl
  · intro d hd
    obtain ⟨x, hx, rfl⟩ := List.mem_map.mp hd
    show (strSm x.1 && (smD (.int (x.2 : Int)) && true)) = true
    rw [(h.y1 x hx).2.1, sm_small (h.y1 x hx).2.2]
    rfl
  · intro d hd
    obtain ⟨x, hx, rfl⟩ := List.mem_map.mp hd
    show (strSm x.1 && (smAll (x.2.map PyData.str) && true)) = true
    rw [(h.y0 x hx).2, sm_strsA fun y hy => ((h.w0 x hx).2.2.2 y hy).2]
    rfl
theorem drawn_cnt {b : Bk} (h : Drawn b) : cntAll [dS b, dP b, dO b, dR b] ≤ 50 := by
  show (cntAll (b.sorts.map sortD) + 1) + ((cntAll (b.prims.map primD) + 1) + ((cntAll (b.ports.map PyData.str) + 1) + ((cntAll (b.reasons.map PyData.str) + 1) + 0))) ≤ 50
  rw [cnt_strs, cnt_strs]
  have h1 := cnt_of (n := 7) (ds := b.sorts.map sortD) fun d hd => by
    obtain ⟨x, hx, rfl⟩ := List.mem_map.mp hd
    show 1 + (cntAll (x.2.map PyData.str) + 1 + 0) + 1 ≤ 7
    rw [cnt_strs]
    have := (h.w0 x hx).2.2.1
    omega
  have h2 := cnt_of (n := 3) (ds := b.prims.map primD) fun d hd => by
    obtain ⟨x, hx, rfl⟩ := List.mem_map.mp hd
    exact Nat.le_refl _
  rw [List.length_map] at h1 h2
  have := h.l0
  have := h.l1
  have := h.l2
  have := h.l3
  omega
end L2.Vf.K01
/-! The functions that ask a book for a name. -/
namespace L2.Vf.K01
open PySem PySem.Spec PyProof.Rows
open Evl (Ex Ev EvT EvL EvA)
open NdefX LamX
abbrev s__law_looks_right : Stmt := top 45
/-- the lambda in the test of the i-th statement of the first loop -/
def lamIn (st : Stmt) (i : Nat) : Lm := match (defBody st)[1]? with
  | some (Stmt.For _ _ body _ _) => (match body[i]? with
    | some (Stmt.If (Expr.Compare (Expr.Call _ [Expr.Lambda p b s pos] _ _) _ _ _) _ _ _) => ⟨p, b, s, pos⟩
    | _ => ⟨defArgs st, .Constant .none 0 ⟨0, 0, 0, 0⟩, defScope st, ⟨0, 0, 0, 0⟩⟩)
  | _ => ⟨defArgs st, .Constant .none 0 ⟨0, 0, 0, 0⟩, defScope st, ⟨0, 0, 0, 0⟩⟩
abbrev lW : Lm := lamIn s__law_looks_right 0
abbrev lC : Lm := lamIn s__law_looks_right 1
theorem nsW : NScope ["_law_book_here", "_law_value"] [] ["_law_book_here", "_law_value"] lW.scope := nscope_by (by decide +kernel)
theorem nsC : NScope ["_law_book_here", "_law_value"] [] ["_law_book_here", "_law_value"] lC.scope := nscope_by (by decide +kernel)
def spLW (K : PySem.W.Frag) (w : World) (C CU p : Addr) (v : V) (c' : Addr) (q : Str) : Sp := fun vs H Q E => vs = [] ∧ H c' = some (CodeO c' q) ∧ (∃ dx fs, H p = some (.ins C dx fs) ∧ fs.lookup ("words" : Str) = none) ∧ spWords K w C CU [.ref p, v] H Q E
def spLC (K : PySem.W.Frag) (w : World) (C CU p : Addr) (v : V) (c' : Addr) (q : Str) : Sp := fun vs H Q E => vs = [] ∧ H c' = some (CodeO c' q) ∧ (∃ dx fs, H p = some (.ins C dx fs) ∧ fs.lookup ("count" : Str) = none) ∧ spCount K w C CU [.ref p, v] H Q E
section
variable {P : Program} {w : World} {K : PySem.W.Frag} {mg : Str → Option Value} {base : Heap} {f c' C CU p : Addr} {v : V} {q : Str} {cl : List (Str × Addr)} {pm ctv : Value}
theorem ok_lW {f1 : Addr} {fd1 : FuncData} (ob : base.get? f = some (PySem.W.kla_obj "<lambda>" q lW.params lW.body lW.scope cl pm c' ctv)) (CB : CellsB base cl ["_law_book_here", "_law_value"] [some (.ref p), some v]) (M : BkTxt K C)
    (mm_words : Meth K C "words" f1) (GM_words : FnOk P w K mg base (L2.CX P w) 3 f1 fd1 ["self", "sort"] (spWords K w C CU)) (bm_words : Binds K fd1 ["self", "sort"] []) :
    FnOk P w K mg base (L2.CX P w) 4 f (PySem.W.kla_fn "<lambda>" q lW.params lW.body lW.scope cl pm (.ref c') ctv) [] (spLW K w C CU p v c' q) := by
  refine fn_lam (N := ["_law_book_here", "_law_value"]) (k := 3) (ws := [some (.ref p), some v]) ob nsW CB (fun vs H Q E h => ?_) (fun vs H Q E h => ?_) fun A outer s H vs Q E hr h => ?_
  · obtain ⟨rfl, _⟩ := h
    rfl
  · obtain ⟨_, h, _⟩ := h
    exact h
  obtain ⟨rfl, _, ⟨dx, fs, hp, hl⟩, hq⟩ := h
  refine ⟨_, (pe_meth (pv 0) M.cl mm_words GM_words (hr.mono (by omega)) bm_words .nil (L2.passes_call (L2.takes_of rfl rfl rfl rfl) (fun _ _ _ _ h => h)) (pa_cons (pv 1) pa_nil)), ?_⟩
  exact ⟨_, rfl, p, dx, fs, rfl, hp, hl, _, rfl, hq⟩
theorem ok_lC {f1 : Addr} {fd1 : FuncData} (ob : base.get? f = some (PySem.W.kla_obj "<lambda>" q lC.params lC.body lC.scope cl pm c' ctv)) (CB : CellsB base cl ["_law_book_here", "_law_value"] [some (.ref p), some v]) (M : BkTxt K C)
    (mm_count : Meth K C "count" f1) (GM_count : FnOk P w K mg base (L2.CX P w) 3 f1 fd1 ["self", "primitive"] (spCount K w C CU)) (bm_count : Binds K fd1 ["self", "primitive"] []) :
    FnOk P w K mg base (L2.CX P w) 4 f (PySem.W.kla_fn "<lambda>" q lC.params lC.body lC.scope cl pm (.ref c') ctv) [] (spLC K w C CU p v c' q) := by
  refine fn_lam (N := ["_law_book_here", "_law_value"]) (k := 3) (ws := [some (.ref p), some v]) ob nsC CB (fun vs H Q E h => ?_) (fun vs H Q E h => ?_) fun A outer s H vs Q E hr h => ?_
  · obtain ⟨rfl, _⟩ := h
    rfl
  · obtain ⟨_, h, _⟩ := h
    exact h
  obtain ⟨rfl, _, ⟨dx, fs, hp, hl⟩, hq⟩ := h
  refine ⟨_, (pe_meth (pv 0) M.cl mm_count GM_count (hr.mono (by omega)) bm_count .nil (L2.passes_call (L2.takes_of rfl rfl rfl rfl) (fun _ _ _ _ h => h)) (pa_cons (pv 1) pa_nil)), ?_⟩
  exact ⟨_, rfl, p, dx, fs, rfl, hp, hl, _, rfl, hq⟩
end
end L2.Vf.K01
/-! [v] != [v], the same v in both. -/
namespace L2.Vf
open PySem PySem.Spec PyProof.Rows
/-- told alike by what it is, or one object -/
def SameV (v : V) : Prop := flatB v = true ∨ ∃ c : Addr, v = .ref c
def rNeS (K : PySem.W.Frag) : R2 := fun x y H Q => ∃ (a b : Addr) (v : V), x = .ref a ∧ y = .ref b ∧ SqL K H a [v] ∧ SqL K H b [v] ∧ SameV v ∧ Q (.bl false) H
theorem op_neS {X : Cx} {K : PySem.W.Frag} (hu : X.A.units < cLine) (hK : X.K = K := by rfl) : OpR X (compareOp .NotEq) (rNeS K) := by
  subst hK
  intro pins s σ H x y v u Q I rx ry h
  obtain ⟨a, b, z, rfl, rfl, ha, hb, hz, q⟩ := h
  cases rx
  cases ry
  obtain ⟨its, r, pl, _⟩ := I.list ha
  obtain ⟨its2, r2, pl2, _⟩ := I.list hb
  obtain ⟨z1, rfl, k1⟩ := vals1 r
  obtain ⟨z2, rfl, k2⟩ := vals1 r2
  refine SeqAt.RcNeAt.lists (e := fun _ => true) pl.isList pl2.isList rfl hu (fun j h1 h2 => ?_) _ _ _ _ ⟨.bl false, H, I, rfl, q⟩
  have j0 : j = 0 := by
    have : j < 1 := h1
    omega
  subst j0
  show SeqAt.EqAt _ _ z1 z2 true
  rcases hz with f | ⟨c, rfl⟩
  · exact eqAt_same k1 k2 f
  · cases (show z1 = Value.ref c from k1)
    cases (show z2 = Value.ref c from k2)
    exact SeqAt.EqAt.same _
end L2.Vf
/-! repr of any data. -/
namespace L2.Vf
open PySem PySem.Spec PyProof.Rows
def rReprA (K : PySem.W.Frag) (w : World) : List V → Hp → VK → Prop := fun xs H Q => ∃ (v : V) (d : PyData), xs = [v] ∧ Dr K w H v d ∧ d.showable = true ∧ d.depth ≤ 150 ∧ d.shown.length ≤ sizeLine ∧ Q (.str d.shown) H
theorem call_reprA {X : Cx} {K : PySem.W.Frag} {w : World} (hg : X.A.guards = some []) (hu : X.A.units + 190 < cLine) (hK : X.K = K := by rfl) (hw : X.w = w := by rfl) : CallR X (.builtin "repr") (rReprA K w) := by
  intro pins s σ H xs us Q I r h
  obtain ⟨v, d, rfl, hd, sh, dp, sz, q⟩ := h
  have hd0 := hd
  cases hd with
  | lst h1 h2 h3 => exact call_reprM hg hu hK hw _ _ _ _ _ _ _ I r ⟨_, _, rfl, hd0, sh, dp, sz, q⟩
  | tup h1 h2 => exact call_reprM hg hu hK hw _ _ _ _ _ _ _ I r ⟨_, _, rfl, hd0, sh, dp, sz, q⟩
  | dct h1 h2 => exact call_reprM hg hu hK hw _ _ _ _ _ _ _ I r ⟨_, _, rfl, hd0, sh, dp, sz, q⟩
  | non =>
    obtain ⟨u, rfl, rx⟩ := vals1 r
    cases rx
    exact PySem.P.repr_of_none ⟨.str "None", H, I.tok _, ⟨_, rfl⟩, by simpa only [PyData.shown] using q⟩
  | bl b =>
    obtain ⟨u, rfl, rx⟩ := vals1 r
    cases rx
    refine PySem.P.repr_of_bool ⟨.str (if b then "True" else "False"), H, I.tok _, ⟨_, rfl⟩, ?_⟩
    simpa only [PyData.shown] using q
  | int i =>
    obtain ⟨u, rfl, rx⟩ := vals1 r
    obtain ⟨t, rfl⟩ := rx
    refine PySem.P.repr_of_int (by simpa only [PyData.showable, decide_eq_true_eq] using sh) ⟨.str (toString i), H, I.tok _, ⟨_, rfl⟩, ?_⟩
    simpa only [PyData.shown] using q
  | str x =>
    obtain ⟨u, rfl, rx⟩ := vals1 r
    obtain ⟨t, rfl⟩ := rx
    refine PySem.P.repr_of_str ⟨.str (reprText x), H, I.tok _, ⟨_, rfl⟩, ?_⟩ (by simpa only [PyData.shown] using sz)
    simpa only [PyData.shown] using q
end L2.Vf
/-! What a book does not tell of. -/
namespace L2.Vf.K01
open PySem PySem.Spec PyProof.Rows
open Evl (Ex Ev EvT EvL EvA)
open NdefX LamX
/-- a def of the text, its code object known -/
structure FunC (K : PySem.W.Frag) (x qual : Str) (st : Stmt) (f : Addr) (fd : FuncData) (c : Addr) : Prop where
  ex : ∃ (oc : Value) (od : Option Addr) (kV doc pm : Value) (an : Option Addr) (ct : Value) (osl : Array (Option Value)),
    fd = PySem.W.fnOf x qual (defArgs st) (defBody st) (defScope st) .none kV doc pm an (.ref c) ct ∧ K.lookup f = some ⟨oc, od, .func fd, osl⟩ ∧ PySem.W.codeIn K (.ref c) qual = true
  kp : PySem.W.keepIn K (.ref f) = true
theorem FunC.okG {P : Program} {w : World} {K : PySem.W.Frag} {mg : Str → Option Value} {base : Heap} {f c : Addr} {fd : FuncData} {x qual : Str} {st : Stmt} {N ps : List Str} {k : Nat} {sp : Sp} (F : FunC K x qual st f fd c) (S : FnScope N ps (defScope st)) (len : ∀ vs H Q E, sp vs H Q E → vs.length = ps.length)
    (hbody : ∀ (A : Around) (outer : List Env) (s : Shared) (H : Hp) (vs : List V) (Q : VK) (E : XK), A.guards = some [] → Room k (A.deeper (envOfC qual (defScope st) s.heap.objs.size f (.ref c))) → sp vs H Q E →
      ∃ t, PSs (cxOf CX0 P w K mg base N qual (defScope st) f (.ref c) A outer s H E).nox (defBody st) t ∧ t { nx := fun _ H' => Q .non H', rt := Q } (start N vs) H) : FnG P w K mg base CX0 (k + 1) f fd ps sp := by
  obtain ⟨oc, od, kV, doc, pm, an, ct, osl, rfl, lk, hcd⟩ := F.ex
  refine fn_ofG lk hcd S len fun A outer s H vs Q E hgu hr hsp => ?_
  obtain ⟨t, h, q⟩ := hbody A outer s H vs Q E hgu hr hsp
  exact ⟨t, h.nox, q⟩
theorem extN_t {K : PySem.W.Frag} {H H2 : Hp} (eN : ExtN H H2) : ∀ {a : Addr} {xs : List V}, SqT K H a xs → SqT K H2 a xs := fun {a xs} g => by
  rcases g with (g | ⟨o, g⟩) | g
  · exact .inl (.inl (eN _ _ g (by intro _ z; cases z)))
  · exact .inl (.inr ⟨o, eN _ _ g (by intro _ z; cases z)⟩)
  · exact .inr g
theorem extN_l {K : PySem.W.Frag} {H H2 : Hp} (eN : ExtN H H2) : ∀ {a : Addr} {xs : List V}, SqL K H a xs → SqL K H2 a xs := fun {a xs} g => by
  rcases g with (g | ⟨o, g⟩) | g
  · exact .inl (.inl (eN _ _ g (by intro _ z; cases z)))
  · exact .inl (.inr ⟨o, eN _ _ g (by intro _ z; cases z)⟩)
  · exact .inr g
theorem extN_book {K : PySem.W.Frag} {w : World} {H H' : Hp} {C p : Addr} {b : Bk} (e : ExtN H H') (h : BookAt K w H C p b) : BookAt K w H' C p b := by
  obtain ⟨dx, s, pr, po, re, wd, ct, h1, h2⟩ := h
  exact ⟨dx, s, pr, po, re, wd, ct, e _ _ h1 (fun _ z => by cases z), h2.to (fun {a xs} g => extN_t e g) fun d mv g => e _ _ g (fun _ z => by cases z)⟩
/-- a name that neither the sorts nor the primitives of a drawn book have -/
def farD : PyData → Bool
  | .str x => decide (x = ("zz" : Str)) || (!nameD (.str x) && decide (x ≠ ("why" : Str)))
  | _ => true
theorem far_w {b : Bk} {d : PyData} (h : Drawn b) (f : farD d = true) : wLook b d = none := by
  cases d with
  | str x =>
    show ((b.sorts ++ [whyS b.reasons]).find? fun p => decide (p.1 = x)).map (·.2) = none
    rw [List.find?_eq_none.mpr fun p hp => ?_]
    · rfl
    have f' : (decide (x = ("zz" : Str)) || (!nameD (.str x) && decide (x ≠ ("why" : Str)))) = true := f
    rw [Bool.or_eq_true, Bool.and_eq_true] at f'
    intro e
    have e := of_decide_eq_true e
    rcases List.mem_append.mp hp with m | m
    · rcases f' with z | ⟨z, _⟩
      · exact h.z0 p m (e.trans (of_decide_eq_true z))
      · rw [← e, (h.y0 p m).1] at z
        cases z
    · rw [List.mem_singleton.mp m] at e
      have e' : ("why" : Str) = x := e
      rcases f' with z | ⟨_, z⟩
      · rw [of_decide_eq_true z] at e'
        exact absurd e' (by decide +kernel)
      · exact of_decide_eq_true z e'.symm
  | _ => rfl
theorem far_c {b : Bk} {d : PyData} (h : Drawn b) (f : farD d = true) : cLook b d = none := by
  cases d with
  | str x =>
    show (b.prims.find? fun p => decide (p.1 = x)).map (·.2) = none
    rw [List.find?_eq_none.mpr fun p hp => ?_]
    · rfl
    have f' : (decide (x = ("zz" : Str)) || (!nameD (.str x) && decide (x ≠ ("why" : Str)))) = true := f
    rw [Bool.or_eq_true, Bool.and_eq_true] at f'
    intro e
    have e := of_decide_eq_true e
    rcases f' with z | ⟨z, _⟩
    · exact h.z1 p hp (e.trans (of_decide_eq_true z))
    · rw [← e, (h.y1 p hp).1] at z
      cases z
  | _ => rfl
end L2.Vf.K01
/-! The call of a def with one function that is made for it; a local function called with nothing, that may raise; a method called with one thing, that may raise. -/
namespace L2.Vf
open PySem PySem.Spec PyProof.Rows
open NdefX LamX
/-- a(), a the local name in slot i, what is raised wished for at the caller's slots -/
def tCallL0 (P : Program) (w : World) (K : PySem.W.Frag) (mg : Str → Option Value) (base : Heap) (CX : CXT) (k i : Nat) (E : St → XK) : TE := fun σ H Q => ∃ (f : Addr) (fd : FuncData) (sp : Sp), σ[i]? = some (some (.ref f)) ∧
  PySem.W.FnAt f base ∧ FnOk P w K mg base CX k f fd [] sp ∧ Binds K fd [] [] ∧ sp [] H Q (E σ)
theorem pe_callL0 {X : Cx} {CX : CXT} {k i : Nat} {E : St → XK} {a : Str} {p pos : Pos} (hr : Room k X.A) (hN : X.N[i]? = some a) (hv : Vis X.env.scope a) (hx : ∀ σ, PassesAt CX X σ (E σ))
    (hd : (a == ("__debug__" : Str)) = false := by decide) (hcd : (a == ("__classdict__" : Str)) = false := by decide) :
    PE X (.Call (.Name a p) [] [] pos) (tCallL0 X.prog X.w X.K X.mg X.base CX k i E) := by
  refine ⟨fun pins s σ H Q I h => ?_⟩
  obtain ⟨f, fd, sp, hs, hat, F, hb, h⟩ := h
  refine wpAny_Call_Name_kw (thn ((pe_var (pos := p) (i := i) hN hv hd hcd).run pins s σ H (fun v H1 => v = .ref f ∧ H1 = H) I ⟨.ref f, hs, rfl, rfl⟩) fun u s1 ⟨v, H1, I1, r1, q1⟩ => ?_)
  obtain ⟨ev, eH⟩ := q1
  subst ev
  rw [eH] at I1
  obtain rfl : u = Value.ref f := r1
  have up : PySem.W.FnAt f s1.heap := by
    obtain ⟨a1, a2, a3, a4, h0⟩ := hat
    exact ⟨a1, a2, a3, a4, I1.bk _ _ h0⟩
  refine PySem.W.callWith_F0 up ?_
  exact run_fnSD (dvs := []) (ds := []) F hr hb .nil (hx σ) I1 .nil h
/-- g(lambda: ..) -/
def tFun1 (X : Cx) (T : List (Addr × Str)) (spG : Heap → Sp) (l1 : Lm) (fr1 : List Str) (js1 : List Nat) (E : XK) : TE := fun σ H0 Q => Tabs T H0 ∧ ∀ (b : Heap) (f1 : Addr) (H2 : Hp), ExtN H0 H2 → Tabs T H2 → X.K.In b → b.Ns mainGlobals X.mg →
  l1.Made X b H2 f1 fr1 (js1.map (NdefX.slotAt σ)) → spG b [.ref f1] H2 Q E
section
variable {X : Cx} {CX : CXT} {k : Nat} {g : Addr} {fd : FuncData} {ps : List Str} {spG : Heap → Sp} {E : XK} {x : Str} {p pos : Pos} {T : List (Addr × Str)} {c P : Addr} {l1 : Lm} {fr1 : List Str} {js1 : List Nat}
theorem pe_fun1 (G : ∀ base : Heap, X.K.In base → base.Ns mainGlobals X.mg → FnOk X.prog X.w X.K X.mg base CX k g fd ps (spG base)) (hr : Room k X.A) (hg : Gl X x) (hm : X.mg x = some (.ref g)) (hk : PySem.W.keepIn X.K (.ref g) = true) (hb : Binds X.K fd ps []) (hx : Passes CX X E)
    (TB : TabB X.base X.mg c P) (hcode : X.env.code = .ref c) (hmT : (P, X.env.qual ++ "<lambda>") ∈ T) (hu : ∀ p ∈ T, p.1 = P → p.2 = X.env.qual ++ "<lambda>") (O1 : l1.Ok X fr1 js1)
    (hdb : (x == ("__debug__" : Str)) = false := by decide)
    (hst : starEach [l1.expr] X.env = (false, eval l1.expr X.env) :: starEach [] X.env := by rfl)
    (hpl : (backTo pos (starEach [] X.env)).any (·.1) = false := by rfl) :
    PE X (.Call (.Name x p) [l1.expr] [] pos) (tFun1 X T spG l1 fr1 js1 E) := by
  refine ⟨fun pins s σ H Q I h => ?_⟩
  obtain ⟨hT, q⟩ := h
  refine wpAny_Call_Name_kw (ld_glob I hg hm ?_ hdb)
  refine PySem.W.callWith_K (h₀ := X.base) I.ok.mod.kin hk ?_ hst hpl
  rw [hst]
  show wpAny _ _ (spliced ((false, eval l1.expr X.env) :: [])) _ _ s
  have hf : ∀ {l : Lm} {fr : List Str} {js : List Nat}, l.Ok X fr js → ∀ y ∈ l.scope.names, y.2 = .free → ∃ c, X.env.cells.lookup y.1 = some c := fun O y hy e => (O.free y hy e).elim (fun z => I.ok.has _ (.inl z)) fun z => I.ok.has _ (.inr z)
  refine Calls.spliced_cons (lam_make2 I TB hcode hmT hu hT O1.defs (hf O1) fun f1 c1 pm1 ct1 H2 s2 I2 eN2 T2 hf1 hfn1 hfr1 hco1 => ?_)
  refine Calls.spliced_nil ⟨I2.kIn, ?_⟩
  have e3 := env0_here I2
  have M1 : l1.Made X (baseOf s2.heap H2 (frs X.stack)) H2 f1 fr1 (js1.map (NdefX.slotAt σ)) := ⟨⟨c1, pm1, ct1, baseOf_get hf1 hfn1 hfr1, hco1⟩, cellsB_of I2 O1.free O1.own O1.cap O1.at_⟩
  have q' := q _ f1 H2 eN2 T2 e3.mod.kin e3.mod.glob M1
  have F := G _ e3.mod.kin e3.mod.glob
  have b := hb s2 [.ref f1] I2.kIn (by rw [List.append_nil]; exact F.len _ _ _ _ q')
  rw [List.append_nil] at b
  show wpAny _ _ (call (.ref g) [.ref f1]) _ _ _
  refine wpAny_call (codeAny_mono (F.run X.A X.stack s2 H2 ⟨[.ref f1], []⟩ [.ref f1] [.ref f1] Q E hr e3 b (.cons rfl .nil) q') fun r s' hq => ?_)
  cases r with
  | error e => exact hx pins σ H2 s2 e s' I2 hq
  | ok fl =>
    cases fl with
    | ret u => exact I2.after hq
    | next => exact False.elim hq
    | brk => exact False.elim hq
    | cont => exact False.elim hq
end
section
variable {X : Cx} {CX : CXT} {k : Nat} {f C : Addr} {fd : FuncData} {ps : List Str} {sp : Sp} {dvs : List V} {ds : List Value} {E : St → XK} {m : Str} {o e : Expr} {es : List Expr} {ta : TE} {t : TA} {apos pos : Pos}
end
end L2.Vf
/-! The name that a call does not find. -/
namespace L2.Vf.K01
open PySem PySem.Spec PyProof.Rows
open Evl (Ex Ev EvT EvL EvA)
abbrev s__law_missing : Stmt := top 43
/-- the function f is called: it ends in a state where Ok holds, or tells of a missing name -/
def spMissing (P : Program) (w : World) (K : PySem.W.Frag) (mg : Str → Option Value) (CU : Addr) (k : Nat) (base : Heap) : Sp := fun vs H Q _ => ∃ (f : Addr) (fd : FuncData) (sp : Sp) (Ok : Hp → Prop) (Bad : V → Hp → Prop), vs = [.ref f] ∧
  PySem.W.FnAt f base ∧ FnOk P w K mg base (L2.CX P w) k f fd [] sp ∧ Binds K fd [] [] ∧
  (∀ (Q' : VK) (E' : XK), (∀ v H1, Ok H1 → Q' v H1) → (∀ dd v H1, H1 dd = some (.xd [("name", v)]) → Bad v H1 → E' (.ref CU) (some dd) H1) → sp [] H Q' E') ∧
  (∀ H1, Ok H1 → ∀ L, H1 L = none → Q (.ref L) (upd H1 L (.lst []))) ∧ (∀ v H1, Bad v H1 → ∀ L, H1 L = none → Q (.ref L) (upd H1 L (.lst [v])))
section
variable {P : Program} {w : World} {K : PySem.W.Frag} {mg : Str → Option Value} {base : Heap} {f CU fU : Addr} {fd : FuncData} {k : Nat}
abbrev n__law_missing : List Str := ["_law_call", "error"]
theorem sc__law_missing : FnScope n__law_missing ["_law_call"] (defScope s__law_missing) := ⟨rfl, rfl, rfl, by decide +kernel, rfl, by decide +kernel, by decide +kernel⟩
theorem ok_law_missing (F : Fun K "_law_missing" "_law_missing" s__law_missing f fd) (U : UTxt K mg CU fU) : FnOk P w K mg base CX0 (k + 1) f fd ["_law_call"] (spMissing P w K mg CU k base) := by
  refine F.ok sc__law_missing (fun vs H Q E h => ?_) (fun cdv A outer s H vs Q E hr h => ?_)
  · obtain ⟨g, fdg, sp, Ok, Bad, rfl, _⟩ := h
    rfl
  obtain ⟨g, fdg, sp, Ok, Bad, rfl, hat, FG, bG, hsp, q1, q2⟩ := h
  refine ⟨_, (pss_cons (ps_try_as (i := 1) (c := .ref CU) (tb := (fun W => tDrop (tCallL0 P w K mg base (L2.CX P w) k 0 (WE W)))) (ts := (fun a cls d => tRet (tLst (tCons (tXf a cls d CU "name" (tVar 1)) tNil)))) (Wout := fun _ _ _ _ => False) rfl rfl sc__law_missing.nd rfl rfl ⟨rfl, by decide, Or.inl U.gU⟩ takes0 (fun W pn xe tk _ => pss_one (ps_expr (by exact (pe_callL0 (i := 0) (hr.mono (Nat.le_refl _)) rfl (.inl rfl) (fun σ => passAt tk σ))))) (fun a oe cls d pn hz hf => pss_one (ps_ret (pe_lst (pa_cons (by exact (pe_xf U.fx U.no hz hf (pv 1))) pa_nil)))))
  (pss_one (ps_ret (pe_lst pa_nil)))), ?_⟩
  refine ⟨g, fdg, sp, rfl, hat, FG, bG, hsp _ _ (fun v H1 ok => ?_) (fun dd v H1 hx bad => ⟨true, U.te, fun _ ae na => ?_, fun z => nomatch z⟩)⟩
  · exact ⟨(by show (0 : Nat) ≤ sizeLine; exact Nat.zero_le _), fun L nL => q1 H1 ok L nL⟩
  · exact ⟨_, rfl, rfl, rfl, dd, _, v, rfl, hx, rfl, (by show (1 : Nat) ≤ sizeLine; decide), fun L nL => q2 v H1 bad L nL⟩
end
end L2.Vf.K01
/-! What a book does not tell of: the def. -/
namespace L2.Vf.K01
open PySem PySem.Spec PyProof.Rows
open Evl (Ex Ev EvT EvL EvA)
open NdefX LamX
/-- a value that is asked for -/
def OddV (K : PySem.W.Frag) (w : World) (H : Hp) (v : V) : Prop := SameV v ∧ ∃ d, Dr K w H v d ∧ (∀ x, d = .str x → x.length ≤ 1000) ∧ farD d = true
/-- a value that is looked at -/
def AnyV (K : PySem.W.Frag) (w : World) (H : Hp) (v : V) : Prop := ∃ d, Dr K w H v d ∧ ∀ x, d = .str x → x.length ≤ 1000
section
variable {K : PySem.W.Frag} {w : World} {H H' : Hp} {v : V}
theorem OddV.n (e : ExtN H H') (h : OddV K w H v) : OddV K w H' v := by
  obtain ⟨h1, d, h2, h3⟩ := h
  exact ⟨h1, d, extN_dr e h2, h3⟩
theorem AnyV.n (e : ExtN H H') (h : AnyV K w H v) : AnyV K w H' v := by
  obtain ⟨d, h2, h3⟩ := h
  exact ⟨d, extN_dr e h2, h3⟩
theorem OddV.any (h : OddV K w H v) : AnyV K w H v := by
  obtain ⟨_, d, h2, h3, _⟩ := h
  exact ⟨d, h2, h3⟩
theorem odd_str {x : Str} (h : x.length ≤ 1000) (f : farD (.str x) = true) : OddV K w H (.str x) := ⟨.inl rfl, _, .str x, fun y e => by
  injection e with e
  rw [← e]
  exact h, f⟩
theorem any_str {x : Str} (h : x.length ≤ 1000) : AnyV K w H (.str x) := ⟨_, .str x, fun y e => by
  injection e with e
  rw [← e]
  exact h⟩
theorem any_int {i : Int} : AnyV K w H (.int i) := ⟨_, .int i, fun y e => by cases e⟩
theorem odd_ref {a : Addr} {d : PyData} (h : Dr K w H (.ref a) d) (n : ∀ x, d ≠ .str x) : OddV K w H (.ref a) := ⟨.inr ⟨a, rfl⟩, d, h, fun x e => absurd e (n x), by
  cases d with
  | str x => exact absurd rfl (n x)
  | _ => rfl⟩
end
theorem mulA12 : MulOk "a" 12 := ⟨by decide +kernel, fun _ _ => by decide +kernel, fun _ _ => by decide +kernel⟩
theorem mulA13 : MulOk "a" 13 := ⟨by decide +kernel, fun _ _ => by decide +kernel, fun _ _ => by decide +kernel⟩
theorem bools3 (a b c : Bool) : (PyData.list [.bool a, .bool b, .bool c]).showable = true ∧ (PyData.list [.bool a, .bool b, .bool c]).depth ≤ 150 ∧ (PyData.list [.bool a, .bool b, .bool c]).shown.length ≤ 16777216 := by
  cases a <;> cases b <;> cases c <;> refine ⟨by decide +kernel, by decide +kernel, by decide +kernel⟩
def spLooks (K : PySem.W.Frag) (w : World) (C : Addr) (T : List (Addr × Str)) : Sp := fun vs H Q _ => ∃ (v0 v2 : V) (p : Addr) (b : Bk), vs = [v0, .ref p, v2] ∧ BookAt K w H C p b ∧ Drawn b ∧ Tabs T H ∧ ∀ H', ExtN H H' → Tabs T H' → Q (.bl true) H'
section
variable {P : Program} {w : World} {K : PySem.W.Frag} {mg : Str → Option Value} {base : Heap} {f c C CU fm Pt : Addr} {fd fdm : FuncData} {T : List (Addr × Str)}
abbrev n__law_looks_right : List Str := ["_law_source_here", "_law_book_here", "_law_parts", "_law_odd", "_law_value", "_law_some_here", "_law_told"]
theorem sc__law_looks_right : FnScope n__law_looks_right ["_law_source_here", "_law_book_here", "_law_parts"] (defScope s__law_looks_right) := ⟨rfl, rfl, rfl, by decide +kernel, rfl, by decide +kernel, by decide +kernel⟩
theorem ok_looks {fw fc : Addr} {fdw fdc : FuncData} (F : FunC K "_law_looks_right" "_law_looks_right" s__law_looks_right f fd c) (M : BkTxt K C) (m_repr : mg "repr" = none)
    (mm_words : Meth K C "words" fw) (GM_words : ∀ b : Heap, K.In b → b.Ns mainGlobals mg → FnOk P w K mg b (L2.CX P w) 3 fw fdw ["self", "sort"] (spWords K w C CU)) (bm_words : Binds K fdw ["self", "sort"] [])
    (mm_count : Meth K C "count" fc) (GM_count : ∀ b : Heap, K.In b → b.Ns mainGlobals mg → FnOk P w K mg b (L2.CX P w) 3 fc fdc ["self", "primitive"] (spCount K w C CU)) (bm_count : Binds K fdc ["self", "primitive"] [])
    (GL : ∀ b : Heap, K.In b → b.Ns mainGlobals mg → FnOk P w K mg b CX0 5 fm fdm ["_law_call"] (spMissing P w K mg CU 4 b)) (m__law_missing : mg "_law_missing" = some (.ref fm)) (k__law_missing : PySem.W.keepIn K (.ref fm) = true) (b__law_missing : Binds K fdm ["_law_call"] [])
    (TB : TabB base mg c Pt) (hmT : (Pt, (envOfC "_law_looks_right" (defScope s__law_looks_right) 0 0 .none).qual ++ "<lambda>") ∈ T) (hu : ∀ p ∈ T, p.1 = Pt → p.2 = (envOfC "_law_looks_right" (defScope s__law_looks_right) 0 0 .none).qual ++ "<lambda>")
    (h1 : Has P w K mg base 1 "is_word" ["value"] (spIsWord K w)) (h2 : Has P w K mg base 2 "is_name" ["value"] (spIsName K w)) (h3 : Has P w K mg base 1 "is_number" ["value"] (spIsNumber K w))
    (h4 : Has P w K mg base 1 "_law_is_word" ["_law_value"] (spIsWord K w)) (h5 : Has P w K mg base 2 "_law_is_name" ["_law_value"] (spIsName K w)) (h6 : Has P w K mg base 1 "_law_is_count" ["_law_value", "_law_least"] (spIsCount K w)) :
    FnG P w K mg base CX0 6 f fd ["_law_source_here", "_law_book_here", "_law_parts"] (spLooks K w C T) := by
  obtain ⟨f1, fd1, G_is_word, m_is_word, k_is_word, b_is_word⟩ := h1
  obtain ⟨f2, fd2, G_is_name, m_is_name, k_is_name, b_is_name⟩ := h2
  obtain ⟨f3, fd3, G_is_number, m_is_number, k_is_number, b_is_number⟩ := h3
  obtain ⟨f4, fd4, G__law_is_word, m__law_is_word, k__law_is_word, b__law_is_word⟩ := h4
  obtain ⟨f5, fd5, G__law_is_name, m__law_is_name, k__law_is_name, b__law_is_name⟩ := h5
  obtain ⟨f6, fd6, G__law_is_count, m__law_is_count, k__law_is_count, b__law_is_count⟩ := h6
  refine F.okG (k := 5) sc__law_looks_right (fun vs H Q E h => ?_) (fun A outer s H vs Q E hgu hr h => ?_)
  · obtain ⟨_, _, _, _, rfl, _⟩ := h
    rfl
  obtain ⟨v0, v2, p, b, rfl, hB, hD, hT, q⟩ := h
  have nblW : ndefB (defScope s__law_looks_right) lW.scope ["_law_book_here", "_law_value"] = true := by decide +kernel
  have nblC : ndefB (defScope s__law_looks_right) lC.scope ["_law_book_here", "_law_value"] = true := by decide +kernel
  refine ⟨_, (pss_cons (ps_set (i := 3) sc__law_looks_right.nd rfl (.inl rfl) (pe_lstN (pa_cons pe_non (pa_cons pe_str (pa_cons pe_str (pa_cons pe_str (pa_cons pe_int (pa_cons pe_bl (pa_cons (pe_tup (pa_cons pe_str pa_nil)) (pa_cons (pe_lstN (pa_cons pe_str pa_nil)) (pa_cons pe_str (pa_cons (pe_mnew (w := w)) (pa_cons (pe_tup (pa_cons pe_str (pa_cons (pe_lstN (pa_cons pe_str pa_nil)) pa_nil))) pa_nil)))))))))))))
  (pss_cons (ps_for PassesOwn.never rfl (pi_list (pv 3)) (pg_name (i := 4) sc__law_looks_right.nd rfl (.inr rfl))
  (pss_cons (ps_if (pt_cmpR (op_neS (K := K) (units0' hr)) (pe_fun1 (l1 := lW) (fr1 := ["_law_book_here", "_law_value"]) (js1 := [1, 4]) (T := T) (CX := CX0) (k := 5) (E := E0) (spG := fun b => spMissing P w K mg CU 4 b) GL (hr.mono (by omega)) (by rfl) m__law_missing k__law_missing b__law_missing pass0 TB rfl hmT hu ⟨by rfl, ndef_free nblW, fun _ _ _ => rfl, ndef_fr nblW, by rfl⟩) (pe_lst (pa_cons (pv 4) pa_nil)) (nomark _))
  (pss_one (ps_ret pe_bl))
  pss_nil)
  (pss_one (ps_if (pt_cmpR (op_neS (K := K) (units0' hr)) (pe_fun1 (l1 := lC) (fr1 := ["_law_book_here", "_law_value"]) (js1 := [1, 4]) (T := T) (CX := CX0) (k := 5) (E := E0) (spG := fun b => spMissing P w K mg CU 4 b) GL (hr.mono (by omega)) (by rfl) m__law_missing k__law_missing b__law_missing pass0 TB rfl hmT hu ⟨by rfl, ndef_free nblC, fun _ _ _ => rfl, ndef_fr nblC, by rfl⟩) (pe_lst (pa_cons (pv 4) pa_nil)) (nomark _))
  (pss_one (ps_ret pe_bl))
  pss_nil))))
  (pss_cons (ps_set (i := 5) sc__law_looks_right.nd rfl (.inl rfl) (pe_lstN (pa_cons pe_str (pa_cons pe_str (pa_cons pe_str (pa_cons pe_str (pa_cons (pe_op op_mulS pe_str pe_int) (pa_cons (pe_op op_mulS pe_str pe_int) (pa_cons pe_str (pa_cons pe_str (pa_cons pe_str (pa_cons (pe_un un_neg pe_int) (pa_cons pe_int (pa_cons (pe_op op_pow pe_int pe_int) (pa_cons pe_bl (pa_cons (pe_tup pa_nil) pa_nil))))))))))))))))
  (pss_cons (ps_set (i := 5) sc__law_looks_right.nd rfl (.inl rfl) (pe_op op_cat (pv 5) (pe_lstN (pa_cons pe_str (pa_cons pe_str (pa_cons pe_str (pa_cons pe_str (pa_cons pe_str (pa_cons pe_str (pa_cons pe_str (pa_cons pe_str (pa_cons pe_str (pa_cons pe_str (pa_cons pe_str pa_nil))))))))))))))
  (pss_cons (ps_for PassesOwn.never rfl (pi_list (pe_op op_cat (pv 3) (pv 5))) (pg_name (i := 4) sc__law_looks_right.nd rfl (.inr rfl))
  (pss_cons (ps_set (i := 6) sc__law_looks_right.nd rfl (.inl rfl) (pe_lstN (pa_cons (pe_call G_is_word (hr.mono (by omega)) (by rfl) m_is_word k_is_word b_is_word .nil pass0 (pa_cons (pv 4) pa_nil)) (pa_cons (pe_call G_is_name (hr.mono (by omega)) (by rfl) m_is_name k_is_name b_is_name .nil pass0 (pa_cons (pv 4) pa_nil)) (pa_cons (pe_call G_is_number (hr.mono (by omega)) (by rfl) m_is_number k_is_number b_is_number .nil pass0 (pa_cons (pv 4) pa_nil)) pa_nil)))))
  (pss_one (ps_if (pt_cmpR op_ne (pe_callB (call_reprA (K := K) (w := w) hgu (units190 hr)) (by rfl) m_repr (by decide +kernel) (pa_cons (pv 6) pa_nil)) (pe_callB (call_reprA (K := K) (w := w) hgu (units190 hr)) (by rfl) m_repr (by decide +kernel) (pa_cons (pe_lstN (pa_cons (pe_call G__law_is_word (hr.mono (by omega)) (by rfl) m__law_is_word k__law_is_word b__law_is_word .nil pass0 (pa_cons (pv 4) pa_nil)) (pa_cons (pe_call G__law_is_name (hr.mono (by omega)) (by rfl) m__law_is_name k__law_is_name b__law_is_name .nil pass0 (pa_cons (pv 4) pa_nil)) (pa_cons (pe_call G__law_is_count (hr.mono (by omega)) (by rfl) m__law_is_count k__law_is_count b__law_is_count .nil pass0 (pa_cons (pv 4) (pa_cons pe_int pa_nil))) pa_nil)))) pa_nil)) (nomark _))
  (pss_one (ps_ret pe_bl))
  pss_nil))))
  (pss_one (ps_ret pe_bl))))))), ?_⟩
  have sz : sizeLine = 16777216 := sizeLine_eq
  -- the odd values
  refine seq_to (fun σ' H' => ∃ O os, σ' = [some v0, some (.ref p), some v2, some (.ref O), none, none, none] ∧ Ex H H' ∧ H' O = some (.lst os) ∧ os.length ≤ 100 ∧ ∀ v ∈ os, OddV K w H' v) (fun Nx kx => ?_) ?_
  · refine ⟨(by show (1 : Nat) ≤ sizeLine; omega), fun t1 nt1 => ⟨(by show (1 : Nat) ≤ sizeLine; omega), fun l1 nl1 ml1 => fun dd ndd mdd => ⟨(by show (1 : Nat) ≤ sizeLine; omega), fun l2 nl2 ml2 => ⟨(by show (2 : Nat) ≤ sizeLine; omega), fun t2 nt2 => ⟨(by show (11 : Nat) ≤ sizeLine; omega), fun O nO mO => kx _ _ ⟨O, _, rfl, ?_, upd_same, (by show (11 : Nat) ≤ 100; omega), ?_⟩⟩⟩⟩⟩⟩
    · exact ((((((Ex.new nt1).trans (Ex.new nl1)).trans (Ex.new ndd)).trans (Ex.new nl2)).trans (Ex.new nt2))).trans (Ex.new nO)
    · have x1 := Ex.new (o := HO.lst [V.str "c"]) nl1
      have x2 := Ex.new (o := mxo dd w []) ndd
      have x3 := Ex.new (o := HO.lst [V.str "red"]) nl2
      have x4 := Ex.new (o := HO.tup [V.str "c", V.ref l2]) nt2
      have x5 := Ex.new (o := HO.lst [V.non, V.str "zz", V.str "Why", V.str "gone", V.int 0, V.bl true, V.ref t1, V.ref l1, V.str "", V.ref dd, V.ref t2]) nO
      have o1 : ∀ {a : Addr} {xs : List V} {G : Hp}, G a = none → SqT K (upd G a (.tup xs)) a xs := fun _ => .inl (.inl upd_same)
      intro v hv
      simp only [List.mem_cons, List.not_mem_nil, or_false] at hv
      rcases hv with rfl | rfl | rfl | rfl | rfl | rfl | rfl | rfl | rfl | rfl | rfl
      · exact ⟨.inl rfl, _, .non, (fun x e => by cases e), rfl⟩
      · exact odd_str (by decide +kernel) (by decide +kernel)
      · exact odd_str (by decide +kernel) (by decide +kernel)
      · exact odd_str (by decide +kernel) (by decide +kernel)
      · exact ⟨.inl rfl, _, .int _, (fun x e => by cases e), rfl⟩
      · exact ⟨.inl rfl, _, .bl _, (fun x e => by cases e), rfl⟩
      · exact odd_ref (.tup (Evl.ex_t ((((x1.trans x2).trans x3).trans x4).trans x5) (o1 nt1)) (.cons (.str _) .nil)) (fun x e => by cases e)
      · exact odd_ref (.lst ml1 (Evl.ex_l (((x2.trans x3).trans x4).trans x5) (SqL.of upd_same)) (.cons (.str _) .nil)) (fun x e => by cases e)
      · exact odd_str (by decide +kernel) (by decide +kernel)
      · exact odd_ref (.dct (Mx.mono ((x3.trans x4).trans x5) (Mx.new mdd)) .nil) (fun x e => by cases e)
      · exact odd_ref (.tup (Evl.ex_t x5 (o1 nt2)) (.cons (.str _) (.cons (.lst ml2 (Evl.ex_l (x4.trans x5) (SqL.of upd_same)) (.cons (.str _) .nil)) .nil))) (fun x e => by cases e)
  rintro _ H1 ⟨O, os, rfl, e1, hO, lO, fO⟩
  have T1 := Tabs.ext hT e1
  have B1 := extN_book (ExtN.of e1) hB
  -- asked for
  refine ⟨_, rfl, O, rfl, ⟨_, SqL.of hO⟩, for_list (K := K) (a := O) (xs := os) (fun i σ H' => (∃ y, σ = [some v0, some (.ref p), some v2, some (.ref O), y, none, none]) ∧ ExtN H1 H' ∧ Tabs T H') ⟨⟨_, rfl⟩, ExtN.refl _, T1⟩ (fun i σ H' _ h => extN_l h.2.1 (SqL.of hO)) ?_ ?_⟩
  · rintro i x σ H3 hi ⟨⟨y, rfl⟩, e3, T3⟩
    obtain ⟨same, d, hd, ln, far⟩ := (fO x (List.mem_of_getElem? hi)).n e3
    have B3 := extN_book e3 B1
    refine ⟨T3, fun b1 f1' H4 e4 T4 kin ns M1 => ?_⟩
    obtain ⟨⟨a1, p1, t1, o1, co1⟩, C1⟩ := M1
    have B4 := extN_book e4 B3
    have d4 := extN_dr e4 hd
    obtain ⟨dx, s1, s2, s3, s4, s5, s6, hp4, _⟩ := id B4
    refine ⟨f1', _, spLW K w C CU p x a1 _, fun _ => False, fun v G => v = x ∧ Ex H4 G, rfl, ⟨_, _, _, _, o1⟩, ok_lW o1 C1 M mm_words (GM_words b1 kin ns) bm_words, .all fun us hl => match us, hl with | [], _ => rfl, ?_, fun _ z => z.elim, ?_⟩
    · intro Q' E' _ hE
      refine ⟨rfl, co1, ⟨dx, _, hp4, rfl⟩, p, b, x, d, rfl, B4, Dr.w _ _ d4, fun ws z => ?_, fun _ G dd e hx => hE dd x G hx ⟨rfl, e⟩⟩
      rw [far_w hD far] at z
      cases z
    rintro v G ⟨rfl, eG⟩ L nL
    refine ⟨_, rfl, (by show (1 : Nat) ≤ sizeLine; omega), fun L2 nL2 => ⟨L, L2, v, rfl, rfl, SqL.of (Ex.new nL2 _ _ upd_same), SqL.of upd_same, same, _, rfl, iteF ?_⟩⟩
    dsimp only [tNext]
    have eG2 := (eG.trans (Ex.new (o := HO.lst [v]) nL)).trans (Ex.new (o := HO.lst [v]) nL2)
    generalize upd (upd G L (.lst [v])) L2 (.lst [v]) = G2 at eG2 ⊢
    have T5 := Tabs.ext T4 eG2
    refine ⟨T5, fun b2 f2' H5 e5 T6 kin2 ns2 M2 => ?_⟩
    obtain ⟨⟨a2, p2, t2, o2, co2⟩, C2⟩ := M2
    have e45 : ExtN H4 H5 := (ExtN.of eG2).trans e5
    have B5 := extN_book e45 B4
    have d5 := extN_dr e45 d4
    obtain ⟨dx', s1', s2', s3', s4', s5', s6', hp5, _⟩ := id B5
    refine ⟨f2', _, spLC K w C CU p v a2 _, fun _ => False, fun u G => u = v ∧ Ex H5 G, rfl, ⟨_, _, _, _, o2⟩, ok_lC o2 C2 M mm_count (GM_count b2 kin2 ns2) bm_count, .all fun us hl => match us, hl with | [], _ => rfl, ?_, fun _ z => z.elim, ?_⟩
    · intro Q' E' _ hE
      refine ⟨rfl, co2, ⟨dx', _, hp5, rfl⟩, p, b, v, d, rfl, B5, Dr.w _ _ d5, fun n z => ?_, fun _ G dd e hx => hE dd v G hx ⟨rfl, e⟩⟩
      rw [far_c hD far] at z
      cases z
    rintro u G' ⟨rfl, eG'⟩ L3 nL3
    refine ⟨_, rfl, (by show (1 : Nat) ≤ sizeLine; omega), fun L4 nL4 => ⟨L3, L4, u, rfl, rfl, SqL.of (Ex.new nL4 _ _ upd_same), SqL.of upd_same, same, _, rfl, iteF ?_⟩⟩
    have eG4 := (eG'.trans (Ex.new (o := HO.lst [u]) nL3)).trans (Ex.new (o := HO.lst [u]) nL4)
    exact ⟨⟨_, rfl⟩, (e3.trans e4).trans (e45.trans (ExtN.of eG4)), Tabs.ext T6 eG4⟩
  rintro σ H3 ⟨⟨y4, rfl⟩, e3, T3⟩
  have fO3 : ∀ v ∈ os, AnyV K w H3 v := fun v hv => ((fO v hv).n e3).any
  have hO3 : H3 O = some (.lst os) := e3 _ _ hO (by intro _ z; cases z)
  -- more values
  dsimp only
  refine seq_to (fun σ' H' => ∃ S ss, σ' = [some v0, some (.ref p), some v2, some (.ref O), y4, some (.ref S), none] ∧ Ex H3 H' ∧ H' S = some (.lst ss) ∧ ss.length ≤ 100 ∧ ∀ v ∈ ss, AnyV K w H' v) (fun Nx kx => ?_) ?_
  · refine ⟨_, _, rfl, rfl, mulA12, _, _, rfl, rfl, mulA13, _, rfl, _, _, rfl, rfl, ⟨by decide, by decide, by decide⟩, ⟨(by show (0 : Nat) ≤ sizeLine; omega), fun t nt => ⟨(by show (14 : Nat) ≤ sizeLine; omega), fun S nS mS => kx _ _ ⟨S, _, rfl, (Ex.new nt).trans (Ex.new nS), upd_same, (by show (14 : Nat) ≤ 100; omega), ?_⟩⟩⟩⟩
    intro v hv
    simp only [List.mem_cons, List.not_mem_nil, or_false] at hv
    rcases hv with rfl | rfl | rfl | rfl | rfl | rfl | rfl | rfl | rfl | rfl | rfl | rfl | rfl | rfl
    · exact any_str (by decide +kernel)
    · exact any_str (by decide +kernel)
    · exact any_str (by decide +kernel)
    · exact any_str (by decide +kernel)
    · exact any_str (by decide +kernel)
    · exact any_str (by decide +kernel)
    · exact any_str (by decide +kernel)
    · exact any_str (by decide +kernel)
    · exact any_str (by decide +kernel)
    · exact any_int
    · exact any_int
    · exact any_int
    · exact ⟨_, .bl _, fun x e => by cases e⟩
    · exact ⟨_, .tup (Evl.ex_t (Ex.new nS) (.inl (.inl upd_same))) .nil, fun x e => by cases e⟩
  rintro _ H4 ⟨S, ss, rfl, e4, hS, lS, fS⟩
  refine seq_to (fun σ' H' => ∃ R rs, σ' = [some v0, some (.ref p), some v2, some (.ref O), y4, some (.ref R), none] ∧ Ex H4 H' ∧ H' R = some (.lst rs) ∧ rs.length ≤ 200 ∧ ∀ v ∈ rs, AnyV K w H' v) (fun Nx kx => ?_) ?_
  · refine ⟨_, rfl, (by show (11 : Nat) ≤ sizeLine; omega), fun m nm mm => ⟨S, m, ss, _, rfl, rfl, Ex.new nm _ _ hS, upd_same, (by show _ + 11 ≤ sizeLine; omega), fun R nR => kx _ _ ⟨R, _, rfl, (Ex.new nm).trans (Ex.new nR), upd_same, (by rw [List.length_append]; show _ + 11 ≤ 200; omega), ?_⟩⟩⟩
    intro v hv
    rcases List.mem_append.mp hv with hv | hv
    · exact (fS v hv).n (ExtN.of ((Ex.new nm).trans (Ex.new nR)))
    simp only [List.mem_cons, List.not_mem_nil, or_false] at hv
    rcases hv with rfl | rfl | rfl | rfl | rfl | rfl | rfl | rfl | rfl | rfl | rfl <;> exact any_str (by decide +kernel)
  rintro _ H5 ⟨R, rs, rfl, e5, hR, lR, fR⟩
  have e35 := e4.trans e5
  have hO5 := e35 _ _ hO3
  refine ⟨_, rfl, _, rfl, O, R, os, rs, rfl, rfl, hO5, hR, (by omega), fun Z nZ => ⟨Z, rfl, ⟨_, SqL.of upd_same⟩, ?_⟩⟩
  have eZ := Ex.new (o := HO.lst (os ++ rs)) nZ
  refine for_list (K := K) (a := Z) (xs := os ++ rs) (fun i σ H' => (∃ y y6, σ = [some v0, some (.ref p), some v2, some (.ref O), y, some (.ref R), y6]) ∧ Ex H5 H' ∧ H' Z = some (.lst (os ++ rs))) ⟨⟨_, _, rfl⟩, eZ, upd_same⟩ (fun i σ H' _ h => SqL.of h.2.2) ?_ ?_
  · rintro i x σ H6 hi ⟨⟨y, y6, rfl⟩, e6, hZ⟩
    obtain ⟨d, hd, ln⟩ : AnyV K w H6 x := by
      rcases List.mem_append.mp (List.mem_of_getElem? hi) with z | z
      · exact (fO3 x z).n (ExtN.of (e35.trans e6))
      · exact (fR x z).n (ExtN.of e6)
    obtain ⟨b1, b2, b3⟩ := bools3 (wordD d) (nameD d) (numD d)
    rw [← sz] at b3
    refine ⟨_, rfl, x, d, rfl, Dr.w _ _ hd, ln, fun G1 x1 => ⟨_, rfl, x, d, rfl, Dr.w _ _ (Dr.mono x1 _ _ hd), ln, fun G2 x2 => ⟨_, rfl, x, d, rfl, Dr.w _ _ (Dr.mono (x1.trans x2) _ _ hd), fun G3 x3 => ⟨(by show (3 : Nat) ≤ sizeLine; omega), fun L nL mL => ?_⟩⟩⟩⟩
    have x4 := Ex.new (o := HO.lst [V.bl (wordD d), V.bl (nameD d), V.bl (numD d)]) nL
    have e14 := ((x1.trans x2).trans x3).trans x4
    have hd4 := Dr.mono e14 _ _ hd
    refine ⟨_, rfl, .ref L, .list [.bool (wordD d), .bool (nameD d), .bool (numD d)], rfl, .lst mL (SqL.of upd_same) (.cons (.bl _) (.cons (.bl _) (.cons (.bl _) .nil))), b1, b2, b3, ?_⟩
    generalize upd G3 L (.lst [V.bl (wordD d), V.bl (nameD d), V.bl (numD d)]) = G4 at e14 hd4 x4 ⊢
    refine ⟨_, rfl, x, d, rfl, Dr.w _ _ hd4, ln, fun G5 x5 => ⟨_, rfl, x, d, rfl, Dr.w _ _ (Dr.mono x5 _ _ hd4), ln, fun G6 x6 => ⟨_, rfl, x, d, rfl, Dr.w _ _ (Dr.mono (x5.trans x6) _ _ hd4), fun G7 x7 => ⟨(by show (3 : Nat) ≤ sizeLine; omega), fun L2 nL2 mL2 => ?_⟩⟩⟩⟩
    have x8 := Ex.new (o := HO.lst [V.bl (wordD d), V.bl (nameD d), V.bl (numD d)]) nL2
    have e18 := e14.trans (((x5.trans x6).trans x7).trans x8)
    refine ⟨.ref L2, .list [.bool (wordD d), .bool (nameD d), .bool (numD d)], rfl, .lst mL2 (SqL.of upd_same) (.cons (.bl _) (.cons (.bl _) (.cons (.bl _) .nil))), b1, b2, b3, rfl, _, rfl, ite2 (fun z => by simp at z) (fun _ => ?_)⟩
    exact ⟨⟨_, _, rfl⟩, e6.trans e18, e18 _ _ hZ⟩
  rintro σ H6 ⟨⟨y, y6, rfl⟩, e6, hZ⟩
  exact q H6 (((ExtN.of e1).trans e3).trans (ExtN.of (e35.trans e6))) (Tabs.ext T3 (e35.trans e6))
end
end L2.Vf.K01
/-! What the law leans on. -/
namespace L2.Vf.K01
open PySem PySem.Spec PyProof.Rows
open Evl (Ex Ev EvT EvL EvA)
open NdefX LamX
section
variable {K : PySem.W.Frag} {w : World} {H H' : Hp}
theorem extN_mx0 (e : ExtN H H') {d : Addr} {ks : List Mv} (m : Mx K H w d ks) : Mx K H' w d ks := Mx.to m (fun {a xs} g => extN_t e g) (by
  rcases m.obj with g | ⟨od, g⟩
  · exact .inl (e _ _ g (by intro _ z; cases z))
  · exact .inr ⟨od, e _ _ g (by intro _ z; cases z)⟩)
mutual
theorem Df.xn (e : ExtN H H') : ∀ {d : PyData} {v : V}, Df K w H v d → Df K w H' v d
  | .none, _, h => by cases h; exact .non
  | .bool b, _, h => by cases h; exact .bl b
  | .int i, _, h => by cases h; exact .int i
  | .str x, _, h => by cases h; exact .str x
  | .list ds, _, h => by
    cases h with
    | lst h0 h1 h2 => exact .lst h0 (e _ _ h1 (by intro _ z; cases z)) (DfAll.xn e h2)
  | .tuple ds, _, h => by
    cases h with
    | tup h1 h2 =>
      obtain ⟨its, h3, h4⟩ := h1
      exact .tup ⟨its, e _ _ h3 (by intro _ z; cases z), h4⟩ (DfAll.xn e h2)
  | .dict _, _, h => by
    cases h with
    | dct h => exact .dct (extN_mx0 e h)
theorem DfAll.xn (e : ExtN H H') : ∀ {ds : List PyData} {vs : List V}, DfAll K w H vs ds → DfAll K w H' vs ds
  | [], _, h => by cases h; exact .nil
  | d :: ds, _, h => by
    cases h with
    | cons h1 h2 => exact .cons (Df.xn e h1) (DfAll.xn e h2)
end
theorem DfAll.dw : ∀ {ds : List PyData} {vs : List V}, DfAll K w H vs ds → DwAll K w H vs ds
  | _, _, .nil => .nil
  | _, _, .cons h t => .cons (Dr.w _ _ h.dr) (DfAll.dw t)
theorem df_top {v : V} {d : PyData} (h : Df K w H v d) : TopF K w H v d := fun t => by
  cases h with
  | tup h1 h2 => exact ⟨_, _, rfl, h1, h2.dw⟩
  | _ => cases t
theorem xn_hide {Z : List Addr} (e : ExtN H H') : ExtN (hide Z H) (hide Z H') := fun b o h n => by
  unfold hide at h ⊢
  by_cases z : b ∈ Z
  · rw [if_pos z] at h
    cases h
  · rw [if_neg z] at h
    rw [if_neg z]
    exact e _ _ h n
/-- four parts, told as data of a list or of a tuple -/
theorem four_df {a : Addr} {d0 d1 d2 d3 d : PyData} (h : Df K w H (.ref a) d) (i : itemsD d = [d0, d1, d2, d3]) (sm : smD d = true) (cn : cnt d ≤ 800) : Four K w H a d0 d1 d2 d3 := by
  have go : ∀ {xs : List V}, DfAll K w H xs [d0, d1, d2, d3] → DwAll K w H xs [d0, d1, d2, d3] ∧ ∀ v, xs[1]? = some v → TopF K w H v d1 := fun {xs} h2 => ⟨h2.dw, fun v hv => by
    obtain ⟨e, he, g⟩ := h2.at_ hv
    obtain rfl := Option.some.inj he
    exact df_top g⟩
  cases h with
  | @lst _ xs ds h0 h1 h2 =>
    have i' : ds = [d0, d1, d2, d3] := i
    subst i'
    have c' : cntAll [d0, d1, d2, d3] + 1 ≤ 800 := cn
    exact ⟨⟨true, xs, SqL.of h1, (go h2).1, (go h2).2⟩, sm, by omega⟩
  | @tup _ xs ds h1 h2 =>
    have i' : ds = [d0, d1, d2, d3] := i
    subst i'
    have c' : cntAll [d0, d1, d2, d3] + 1 ≤ 800 := cn
    exact ⟨⟨false, xs, h1.sq, (go h2).1, (go h2).2⟩, sm, by omega⟩
  | _ => cases i
theorem Four.r {a : Addr} {d0 d1 d2 d3 : PyData} {b : Bk} (h : Four K w H a d0 d1 d2 d3) (R : Right d0 d1 d2 d3 b) : FourR K w H a b := by
  obtain ⟨bb, xs, h1, h2, _⟩ := h.ex
  exact ⟨bb, xs, d0, d1, d2, d3, h1, h2, R, h.sm, h.cn⟩
end
end L2.Vf.K01
/-! x == y and x != y by an own __eq__ that may answer either, y an instance of the class or any data. -/
namespace L2.Vf
open PySem PySem.Spec PyProof.Rows
open PySem.W (Frag)
/-- the class at C has its own __eq__, at f, no __ne__, and no base but object -/
def neIn (K : Frag) (C f : Addr) : Bool := match K.lookup C with
  | some ⟨.type "type", _, .cls cd, sl⟩ => (match cd.mro, sl.toList with
    | [.ref C', .type o], [_, _, _, _, some (.builtin n), _] => C' == C && o == "object" && !cd.hasDel && PySem.W.nsOkIn K cd.ns && PySem.W.nsIn K cd.ns "__eq__" == some (some (.ref f)) && PySem.W.nsIn K cd.ns "__ne__" == some none
    | _, _ => false)
  | _ => false
theorem ns_some_of {K : Frag} {h : Heap} {N : Addr} {mg : Str → Option Value} {n : Str} {v : Value} (X : K.In h) (G : h.Ns N mg) (e : PySem.W.nsIn K N n = some (some v)) : mg n = some v := by
  obtain ⟨o, es, ep, ho, hd, _, hf⟩ := G
  unfold PySem.W.nsIn at e
  split at e
  · rename_i c d es' n' sl q
    have := X _ _ q
    rw [ho] at this
    cases this
    cases hd
    split at e
    · rename_i en he
      cases e
      rw [← hf]
      unfold nsFind findBy
      rw [← Array.find?_toList, he]
      rfl
    · split at e <;> cases e
  · cases e
theorem ne_obj {K : Frag} {h : Heap} {C f : Addr} (X : K.In h) (q : neIn K C f = true) :
    ∃ nm qn N bs hdct sn sub ab col dd k0 k1 k2 k3 k5 newId mN, h.get? C = some (excClassObj nm qn C N bs [.type "object"] hdct sn sub ab col dd k0 k1 k2 k3 k5 newId) ∧ h.Ns N mN ∧ mN "__eq__" = some (.ref f) ∧ mN "__ne__" = none := by
  unfold neIn at q
  split at q
  · rename_i dd cd sl ho
    split at q
    · rename_i C' o k0 k1 k2 k3 n k5 hm hs
      simp only [Bool.and_eq_true, beq_iff_eq, Bool.not_eq_true'] at q
      obtain ⟨⟨⟨⟨⟨rfl, rfl⟩, hdel⟩, hok⟩, he⟩, hne⟩ := q
      obtain ⟨nm, bs, mro, ns, qn, hd, sn, sub, ab, col, del⟩ := cd
      dsimp only at hm hdel hok he hne
      subst hm hdel
      have hsl : sl = #[k0, k1, k2, k3, some (.builtin n), k5] := by
        obtain ⟨l⟩ := sl
        simp only at hs
        rw [hs]
      subst hsl
      exact ⟨nm, qn, ns, bs, hd, sn, sub, ab, col, dd, k0, k1, k2, k3, k5, n, _, X _ _ ho, .of_isNs (PySem.W.isNs_of_in X hok), ns_some_of X (.of_isNs (PySem.W.isNs_of_in X hok)) he, PySem.W.nsMap_none_of_in X hok hne⟩
    · cases q
  · cases q
/-- what stands to the right -/
def RightK (K : Frag) (w : World) (C : Addr) (H : Hp) (y : V) : Prop := (∃ b dy gs, y = .ref b ∧ H b = some (.ins C dy gs)) ∨ ∃ d, Dw K w H y d ∧ PySem.W.subIn K (.type (tyD d)) (.ref C) = some false
section
variable {X : Cx} {CX : CXT} {C f : Addr} {fd : FuncData} {ps : List Str} {sp : Sp} {n : Nat} {E : XK}
def rOwnEq (K : Frag) (w : World) (C : Addr) (sp : Sp) (E : XK) (g : Bool → Bool) : R2 := fun x y H Q => ∃ (a dx : Addr) (fs : List (Str × V)), x = .ref a ∧ H a = some (.ins C dx fs) ∧ RightK K w C H y ∧ sp [x, y] H (fun v H' => ∃ b, v = .bl b ∧ Q (.bl (g b)) H') E
theorem dr_looks {pins : List (Addr × Obj)} {σ : St} {H : Hp} {s : Shared} {y : V} {u : Value} {d : PyData} (I : Inv X pins σ H s) (r : RelV y u) (h : Dw X.K X.w H y d) : PySem.W.Looks (model X.prog X.w) s.heap (typeOf u) (.type (tyD d)) := by
  have ref : ∀ {a : Addr} {o : Obj} {T : String}, s.heap.get? a = some o → o.cls = .type T → PySem.W.Looks (model X.prog X.w) s.heap (typeOf (.ref a)) (.type T) := fun {a o T} h1 h2 => fun A Q E s' k q => wpAny_typeOf_ref (k _ _ h1) (by rw [h2]; exact q)
  cases h with
  | non => cases r; exact PySem.W.Looks.of_pure rfl
  | bl b => cases r; exact PySem.W.Looks.of_pure rfl
  | int i => obtain ⟨t, rfl⟩ := r; exact PySem.W.Looks.of_pure rfl
  | str x => obtain ⟨t, rfl⟩ := r; exact PySem.W.Looks.of_pure rfl
  | lst h1 h2 h3 =>
    cases r
    obtain ⟨its, rv, p, hz⟩ := I.list h2
    obtain ⟨o, ho, hc, _⟩ := p.isList
    exact ref ho hc
  | tup h1 h2 =>
    cases r
    obtain ⟨its, rv, ⟨o, ho, hc, _⟩, hz⟩ := I.tuple h1
    exact ref ho hc
  | dct m _ =>
    cases r
    obtain ⟨rows, ⟨o, es, ep, ho, hx, _⟩, _⟩ := m.at_ I
    exact ref ho hx.1
theorem op_ownEq (F : FnOk X.prog X.w X.K X.mg X.base CX n f fd ps sp) (hs : PySem.W.findIn X.K (.ref C) "__eq__" = some (some (.ref f))) (hf : PySem.W.isFn X.K (.ref f) = true) (hb : Binds X.K fd ps []) (hx : Passes CX X E) (hr : Room n X.A) :
    OpR X (compareOp .Eq) (rOwnEq X.K X.w C sp E id) := by
  intro pins s σ H x y v u Q I rx ry h
  obtain ⟨a, dx, fs, rfl, ha, hy, hsp⟩ := h
  cases rx
  obtain ⟨mA, J, _⟩ := ins_get I.hok ha
  obtain ⟨od, J, _⟩ := J.look
  obtain ⟨m, hF⟩ := I.fr
  show wpAny (model X.prog X.w) X.A (richCompare .Eq (.ref a) u) _ _ _
  obtain ⟨tb, lk, nf⟩ : ∃ tb, PySem.W.Looks (model X.prog X.w) s.heap (typeOf u) tb ∧ PySem.W.notFirst X.K C tb = true := by
    rcases hy with ⟨b, dy, gs, rfl, hb'⟩ | ⟨d, hd, hsub⟩
    · cases ry
      obtain ⟨mB, J', _⟩ := ins_get I.hok hb'
      obtain ⟨od', J', _⟩ := J'.look
      exact ⟨_, J'.type, by simp [PySem.W.notFirst]⟩
    · exact ⟨_, dr_looks I ry hd, by simp [PySem.W.notFirst, hsub]⟩
  refine PySem.W.cmp_K (op := .Eq) (tb := tb) hr.units0 hF I.ok.mod.kin J lk nf hs hf ?_
  have hl := F.len _ _ _ _ hsp
  have r2 : Vals [V.ref a, y] [Value.ref a, u] := .cons rfl (.cons ry .nil)
  refine wpAny_call (codeAny_mono (F.run X.A X.stack s H ⟨[.ref a, u], []⟩ [.ref a, u] [.ref a, y] _ E hr I.env0 (by
    have := hb s [.ref a, u] I.kIn (by simpa using hl)
    simpa using this) r2 hsp) fun r s' hq => ?_)
  cases r with
  | error e => exact hx pins σ H s e s' I hq
  | ok fl =>
    cases fl with
    | ret w =>
      obtain ⟨z, H', I', rz, b, ez, q⟩ := I.after hq
      subst ez
      cases rz
      exact ⟨.bl b, H', I', rfl, q⟩
    | next => exact False.elim hq
    | brk => exact False.elim hq
    | cont => exact False.elim hq
theorem op_ownNe (F : FnOk X.prog X.w X.K X.mg X.base CX n f fd ps sp) (hn : neIn X.K C f = true) (hf : PySem.W.isFn X.K (.ref f) = true) (hb : Binds X.K fd ps []) (hx : Passes CX X E) (hr : Room (n + 1) X.A) :
    OpR X (compareOp .NotEq) (fun x y H Q => (∃ b dy gs, y = .ref b ∧ H b = some (.ins C dy gs)) ∧ rOwnEq X.K X.w C sp E not x y H Q) := by
  intro pins s σ H x y v u Q I rx ry h
  obtain ⟨⟨b, dy, gs, rfl, hb'⟩, a, dx, fs, rfl, ha, _, hsp⟩ := h
  cases rx
  cases ry
  obtain ⟨mA, J, _⟩ := ins_get I.hok ha
  obtain ⟨od, J, _⟩ := J.look
  obtain ⟨mB, J', _⟩ := ins_get I.hok hb'
  obtain ⟨od', J', _⟩ := J'.look
  obtain ⟨nm, qn, N, bs, hdct, sn, sub, ab, col, dd, k0, k1, k2, k3, k5, newId, mN, hC, hN, he, hne⟩ := ne_obj I.kIn hn
  obtain ⟨of, hof, hoc⟩ : ∃ of, s.heap.get? f = some of ∧ of.cls = .type "function" := by
    have := beq_iff_eq.mp hf
    unfold PySem.W.typeIn at this
    obtain ⟨o, ho, e⟩ := Option.map_eq_some_iff.mp this
    exact ⟨o, I.kIn _ _ ho, e⟩
  have O : s.heap.OwnEqNoNe a C f "object" [.type "object"] := ⟨_, of, nm, qn, N, bs, hdct, sn, sub, ab, col, dd, k0, k1, k2, k3, k5, newId, mN, some (.builtin "object.__eq__"), J.at_, J.cls, hC, hN, he, hof, hoc, PySem.F.mro_object, PySem.F.cmp_object.eq.lookup, hne⟩
  obtain ⟨hp, g, dr, t, os⟩ := s
  refine compareOp_ne_ownEq PySem.F.cmp_object O J'.at_ J'.cls (by have := hr.un; show X.A.units + 1 < cLine; have : X.A.units + 16 * (n + 1) + 200 < cLine := this; omega) ?_
  have hl := F.len _ _ _ _ hsp
  have r2 : Vals [V.ref a, V.ref b] [Value.ref a, Value.ref b] := .cons rfl (.cons rfl .nil)
  have e0 : Env0 X.prog X.w X.K X.mg X.base X.A.in1 X.stack ⟨hp, g, dr, t, os⟩ H := by
    have e := I.env0
    exact ⟨e.frames, e.mod, e.bs, e.bsz, e.funs, e.frf, e.hok, e.bare⟩
  refine wpAny_call (codeAny_mono (F.run X.A.in1 X.stack _ H ⟨[.ref a, .ref b], []⟩ [.ref a, .ref b] [.ref a, .ref b] _ E hr.in1 e0 (by
    have := hb ⟨hp, g, dr, t, os⟩ [.ref a, .ref b] I.kIn (by simpa using hl)
    simpa using this) r2 hsp) fun r s' hq => ?_)
  cases r with
  | error e => exact hx pins σ H _ e s' I hq
  | ok fl =>
    cases fl with
    | ret w =>
      obtain ⟨z, H', I', rz, b', ez, q⟩ := I.after hq
      subst ez
      cases rz
      exact ⟨b', rfl, .bl (!b'), H', I', rfl, q⟩
    | next => exact False.elim hq
    | brk => exact False.elim hq
    | cont => exact False.elim hq
end
end L2.Vf
/-! x is False; an own __eq__, K told. -/
namespace L2.Vf
open PySem PySem.Spec PyProof.Rows
open PySem.W (Frag)
def rIsF : R2 := fun x y H Q => y = .bl false ∧ ((∃ a, x = .ref a ∧ Q (.bl false) H) ∨ (∃ b, x = .bl b ∧ Q (.bl (b == false)) H))
section
variable {X : Cx} {CX : CXT} {C f : Addr} {fd : FuncData} {ps : List Str} {sp : Sp} {E : XK} {n : Nat}
theorem op_isF : OpR X (compareOp .Is) rIsF := by
  intro pins s σ H x y v u Q I rx ry h
  obtain ⟨rfl, h⟩ := h
  cases ry
  rcases h with ⟨a, rfl, q⟩ | ⟨b, rfl, q⟩
  · cases rx
    exact wpAny_is_other rfl (by intro z; cases z) ⟨.bl false, H, I, rfl, q⟩
  · cases rx
    exact is_bool ⟨.bl _, H, I, rfl, q⟩
theorem op_ownEqK {K : Frag} {w : World} (F : FnOk X.prog X.w X.K X.mg X.base CX n f fd ps sp) (hs : PySem.W.findIn X.K (.ref C) "__eq__" = some (some (.ref f))) (hf : PySem.W.isFn X.K (.ref f) = true) (hb : Binds X.K fd ps []) (hx : Passes CX X E) (hr : Room n X.A) (hK : X.K = K := by rfl) (hw : X.w = w := by rfl) :
    OpR X (compareOp .Eq) (rOwnEq K w C sp E id) := by
  subst hK hw
  exact op_ownEq F hs hf hb hx hr
theorem op_ownNeK {K : Frag} {w : World} (F : FnOk X.prog X.w X.K X.mg X.base CX n f fd ps sp) (hn : neIn X.K C f = true) (hf : PySem.W.isFn X.K (.ref f) = true) (hb : Binds X.K fd ps []) (hx : Passes CX X E) (hr : Room (n + 1) X.A) (hK : X.K = K := by rfl) (hw : X.w = w := by rfl) :
    OpR X (compareOp .NotEq) (fun x y H Q => (∃ b dy gs, y = .ref b ∧ H b = some (.ins C dy gs)) ∧ rOwnEq K w C sp E not x y H Q) := by
  subst hK hw
  exact op_ownNe F hn hf hb hx hr
end
theorem passE {P : Program} {w : World} {X : Cx} : Passes (L2.CX P w) X E0 := fun _ _ _ _ _ _ _ h => by
  obtain ⟨_, _, _, _, _, _, _, _, _, _, _, _, h⟩ := h
  exact h.elim
end L2.Vf
/-! The law's end where functions are made on the way, and a repr is asked: a promise where nothing is guarded, with tables of code objects. -/
namespace L2.Vf
open PySem PySem.Spec PyProof.Rows LamX
/-- an empty table of code objects -/
abbrev emptyT : Obj := { cls := .none, data := .fields #[] }
section
variable {P : Program} {w : World} {K : PySem.W.Frag} {mg mb : Str → Option Value} {k : Nat} {fa a : Addr} {cs : List (Addr × Addr)} {fd : FuncData} {x : Str} {sp : Sp} {s : Shared} {vs : List Value} {ns : List Int}
/-- what is tracked at first: the tables, and the script unless it stands in the written part -/
def first (K : PySem.W.Frag) (cs : List (Addr × Addr)) (a : Addr) (ob : Obj) (ns : List Int) : Hp := fun b =>
  if b ∈ cs.map (·.2) then some (.tbl #[]) else if b = a ∧ (K.lookup a).isSome = false then some (.frz ob (.lst (ns.map V.int))) else none
theorem first_cases {ob : Obj} {b : Addr} {u : HO} (h : first K cs a ob ns b = some u) : (b ∈ cs.map (·.2) ∧ u = .tbl #[]) ∨ (b = a ∧ (K.lookup a).isSome = false ∧ u = .frz ob (.lst (ns.map V.int))) := by
  unfold first at h
  by_cases z : b ∈ cs.map (·.2)
  · rw [if_pos z] at h
    exact .inl ⟨z, (Option.some.inj h).symm⟩
  · rw [if_neg z] at h
    by_cases y : b = a ∧ (K.lookup a).isSome = false
    · rw [if_pos y] at h
      exact .inr ⟨y.1, y.2, (Option.some.inj h).symm⟩
    · rw [if_neg y] at h
      cases h
theorem law_callGT (inK : K.In s.heap) (hns : s.heap.Ns mainGlobals mg) (hb : s.heap.Ns builtinsNs mb) (hbb : ∀ x : Str, x ≠ "__name__" → mb x = bootBuiltins x) (hlim : s.heap.NoLimit) (hg : s.gens = #[])
    (empty : ∀ p ∈ cs, s.heap.get? p.2 = some emptyT) (offK : ∀ p ∈ cs, K.lookup p.2 = none) (heads : ∀ p ∈ cs, PySem.W.CodeHd s.heap p.1 p.2)
    (hbm : ∃ (bm : Addr) (ob : Obj), mg "__builtins__" = some (.ref bm) ∧ bm ≠ builtinsNs ∧ s.heap.get? bm = some ob ∧ ob.cls = .type "module" ∧ ob.dict = some builtinsNs ∧ ob.data = .plain)
    (ha : s.heap.get? a = some { cls := .type "list", data := .seq vs.toArray }) (hi : IntsAre vs ns) (hl : ns.length ≤ sizeLine) (hr : Room k callerA)
    (F : ∀ base : Heap, K.In base → base.Ns mainGlobals mg → (∀ p ∈ cs, TabB base mg p.1 p.2) → FnG P w K mg base CX0 k fa fd [x] sp) (hbind : ∀ (s : Shared) (u : Value), BindsTo s fd ⟨[u], []⟩ [(x, u)])
    (hsp : ∀ H : Hp, (∀ p ∈ cs, H p.2 = some (.tbl #[])) → SqL K H a (ns.map V.int) → sp [.ref a] H (fun v _ => v = .bl true) fun _ _ _ => False) :
    codeAny (model P w) callerA (.call (.ref fa) ⟨[.ref a], []⟩) (fun r s' => r = .ok (.ret (.bool true)) ∧ OldK s.heap s'.heap ∧ s'.os = s.os ∧ AllBare s'.gens) s := by
  have rv := vals_ints hi
  have lenV := hi.length
  have isT : ∀ {b : Addr}, b ∈ cs.map (·.2) → s.heap.get? b = some emptyT := fun hb => by
    obtain ⟨p, hp, e⟩ := List.mem_map.mp hb
    rw [← e]
    exact empty p hp
  have aT : a ∉ cs.map (·.2) := fun z => by
    have y := isT z
    rw [ha] at y
    have y' : Data.seq vs.toArray _ = Data.fields #[] := congrArg Obj.data (Option.some.inj y)
    cases y'
  generalize hob : ({ cls := .type "list", data := .seq vs.toArray } : Obj) = ob at ha
  have tabs : ∀ p ∈ cs, first K cs a ob ns p.2 = some (.tbl #[]) := fun p hp => if_pos (List.mem_map.mpr ⟨p, hp, rfl⟩)
  have atA : (K.lookup a).isSome = false → first K cs a ob ns a = some (.frz ob (.lst (ns.map V.int))) := fun z => (if_neg aT).trans (if_pos ⟨rfl, z⟩)
  have ok : HOk P w (first K cs a ob ns) s.heap := fun b u z => by
    rcases first_cases z with ⟨z1, rfl⟩ | ⟨rfl, _, rfl⟩
    · exact isT z1
    · exact ⟨ha, by rw [List.length_map]; exact hl, vs, _, rv, by rw [ha, ← hob]⟩
  have seq : SqL K (first K cs a ob ns) a (ns.map V.int) := by
    cases z : K.lookup a with
    | none => exact .inl (.inr ⟨ob, atA (by rw [z]; rfl)⟩)
    | some o =>
      have y := inK a o z
      rw [ha, ← hob] at y
      cases y
      exact .inr ⟨_, vs.toArray, _, z, rfl, rfl, rfl, by rw [List.size_toArray, lenV]; exact hl, by simpa using rv⟩
  -- what is neither a sequence nor such a table is not tracked
  have away : ∀ {b : Addr} {o : Obj}, s.heap.get? b = some o → (∀ vs n, o.data ≠ .seq vs n) → o.data ≠ .fields #[] → first K cs a ob ns b = none := fun {b o} e h1 h2 => by
    cases z : first K cs a ob ns b with
    | none => rfl
    | some u =>
      rcases first_cases z with ⟨z1, _⟩ | ⟨rfl, _, _⟩
      · rw [isT z1] at e
        cases e
        exact (h2 rfl).elim
      · rw [ha, ← hob] at e
        cases e
        exact (h1 _ _ rfl).elim
  have stays : ∀ {b : Addr} {o : Obj}, s.heap.get? b = some o → (∀ vs n, o.data ≠ .seq vs n) → o.data ≠ .fields #[] → (hidT s.heap (first K cs a ob ns)).get? b = some o := fun e h1 h2 => hidT_get e (away e h1 h2)
  have nsT : ∀ {b : Addr} {m : Str → Option Value}, s.heap.Ns b m → (hidT s.heap (first K cs a ob ns)).Ns b m := by
    rintro b m ⟨o, es, ep, z, d, r⟩
    exact ⟨o, es, ep, stays z (fun vs n y => by rw [d] at y; cases y) (fun y => by rw [d] at y; cases y), d, r⟩
  have kT : K.In (hidT s.heap (first K cs a ob ns)) := fun b o z => hidT_get (inK b o z) (by
    cases y : first K cs a ob ns b with
    | none => rfl
    | some u =>
      rcases first_cases y with ⟨y1, _⟩ | ⟨rfl, y2, _⟩
      · obtain ⟨p, hp, e⟩ := List.mem_map.mp y1
        rw [← e, offK p hp] at z
        cases z
      · rw [z] at y2
        cases y2)
  have mod : Mod K mg (hidT s.heap (first K cs a ob ns)) := by
    obtain ⟨mc, h1, h2⟩ := hlim
    exact ⟨kT, nsT hns, ⟨mb, nsT hb, hbb⟩, ⟨mc, nsT h1, h2⟩⟩
  have TB : ∀ p ∈ cs, TabB (hidT s.heap (first K cs a ob ns)) mg p.1 p.2 := fun p hp => by
    have e := empty p hp
    refine ⟨?_, ?_, fun z => ?_⟩
    · obtain ⟨o, us, file, tf, flags, tg, inF, text, tt, e1, r1, r2, rest⟩ := heads p hp
      refine ⟨o, us, file, tf, flags, tg, inF, text, tt, stays e1 (fun vs n z => ?_) (fun z => ?_), r1, r2, rest⟩
      · rw [r2] at z
        cases z
      · rw [r2] at z
        cases z
        have r3 := rest.1
        simp at r3
    · obtain ⟨bm, ob2, b1, b2, b3, b4, b5, b6⟩ := hbm
      refine ⟨bm, ob2, b1, b2, fun z => ?_, fun z => ?_, stays b3 (fun vs n z => ?_) (fun z => ?_), b4, b5, b6⟩
      · obtain ⟨o, es, ep, g, d, _⟩ := hns
        rw [z, g] at b3
        cases b3
        rw [d] at b6
        cases b6
      · rw [z, e] at b3
        cases b3
        cases b6
      · rw [b6] at z
        cases z
      · rw [b6] at z
        cases z
    · obtain ⟨o, es, ep, g, d, _⟩ := hns
      rw [z, e] at g
      cases g
      cases d
  have env : Env0 P w K mg (hidT s.heap (first K cs a ob ns)) callerA [] s (first K cs a ob ns) :=
    ⟨rfl, mod, fun b o z => of_hidT z, Nat.le_of_eq (hidT_size _ _), trivial, (fun b z => by cases z), ok, .of_eq hg⟩
  refine codeAny_mono ((F _ kT (nsT hns) TB).run callerA [] s (first K cs a ob ns) ⟨[.ref a], []⟩ [.ref a] [.ref a] _ _ rfl hr env (hbind s (.ref a)) (.cons rfl .nil) (hsp _ tabs seq)) fun r s' h => ?_
  cases r with
  | error e => exact False.elim h
  | ok fl =>
    cases fl with
    | next => exact False.elim h
    | brk => exact False.elim h
    | cont => exact False.elim h
    | ret u =>
      obtain ⟨v, H', os, bare, un, ok', r', q⟩ := h
      obtain rfl : v = .bl true := q
      obtain rfl : u = Value.bool true := r'
      have kept : ∀ b o, b ∉ cs.map (·.2) → s.heap.get? b = some o → s'.heap.get? b = some o := fun b o nb e => by
        cases z : first K cs a ob ns b with
        | none => exact un.keep b o e z (by intro y; cases y) (by simp)
        | some u =>
          rcases first_cases z with ⟨z1, _⟩ | ⟨rfl, _, rfl⟩
          · exact absurd z1 nb
          · obtain ⟨g1, _⟩ := ok b _ z
            obtain ⟨g2, _⟩ := ok' b _ (un.frzs b ob _ z)
            rw [e] at g1
            cases g1
            exact g2
      have grown : ∀ p ∈ cs, ∃ more : Array Value, s'.heap.get? p.2 = some { cls := .none, data := .fields more } := fun p hp => by
        obtain ⟨more, z⟩ := un.tbls p.2 #[] (tabs p hp)
        exact ⟨_, ok' p.2 _ z⟩
      refine ⟨rfl, ⟨fun b o e => ?_, fun b o e => ?_⟩, os, bare⟩
      · by_cases z : b ∈ cs.map (·.2)
        · obtain ⟨p, hp, rfl⟩ := List.mem_map.mp z
          obtain ⟨more, hm⟩ := grown p hp
          rw [empty p hp] at e
          cases e
          exact .inr (.inl ⟨((heads p hp).tab (empty p hp)).isCodeTable, rfl, #[], more, rfl, by rw [Array.empty_append]; exact hm⟩)
        · exact .inl (kept b o z e)
      · by_cases z : b ∈ cs.map (·.2)
        · obtain ⟨p, hp, rfl⟩ := List.mem_map.mp z
          obtain ⟨more, hm⟩ := grown p hp
          exact ⟨_, hm⟩
        · exact ⟨o, kept b o z e⟩
end
/-- the law's end, by a promise that holds where nothing is guarded, with the tables of these defs -/
theorem walk_ofGT {l : PySem.W.OpenLaw} {n k : Nat} {q : Program} {loose : List Str} {XP : (Str → Option Value) → Heap → Prop} {YP : World → Heap → Prop} {d : DefRec} {K : Params → PySem.W.Frag} {x : Str} {names : List Str}
    (hn : l.most = some n) (hn2 : n ≤ sizeLine) (hdf : d.params.defaults = []) (hr : Room k callerA) (hY : ∀ (w : World) (h : Heap), YP w h → (K w.params).In h)
    (hrec : ∀ y ∈ names, ∃ dr, (recsOf q).find? (fun e => e.name == y) = some dr)
    (F : ∀ (w : World) (mg : Str → Option Value) (fa : Addr) (h : Heap), (K w.params).In h → h.Ns mainGlobals mg → mg d.name = some (.ref fa) →
      ∃ (fd : FuncData) (cs : List (Addr × Addr)) (sp : Sp), (∀ p ∈ cs, ∃ y ∈ names, PySem.W.tabIn (K w.params) y = some p) ∧ (∀ p ∈ cs, (K w.params).lookup p.2 = none) ∧ (∀ (s : Shared) (u : Value), BindsTo s fd ⟨[u], []⟩ [(x, u)]) ∧
        (∀ (H : Hp) (a : Addr) (ns : List Int), ns.length ≤ n → (∀ p ∈ cs, H p.2 = some (.tbl #[])) → SqL (K w.params) H a (ns.map V.int) → sp [.ref a] H (fun v _ => v = .bl true) fun _ _ _ => False) ∧
        ∀ base : Heap, (K w.params).In base → base.Ns mainGlobals mg → (∀ p ∈ cs, TabB base mg p.1 p.2) → FnG l.prog w (K w.params) mg base CX0 k fa fd [x] sp) :
    PySem.W.WalkO q loose XP YP l.row.toRowW d [] (fun f vs => PySem.call f vs) := by
  refine Att.attach_call hn hdf fun w s₀ s₁ mg mb fa o pm cd doc a vs ns G Y ho hd hcd hmg hobj hints hlen hg => ?_
  have inK := hY w _ Y
  obtain ⟨fd, cs, sp, hcs, offK, hb, hsp, hF⟩ := F w mg fa _ inK G.T.g hmg
  have both : ∀ p ∈ cs, PySem.W.CodeHd s₁.heap p.1 p.2 ∧ s₁.heap.get? p.2 = some emptyT := fun p hp => by
    obtain ⟨y, hy, ht⟩ := hcs p hp
    obtain ⟨dr, hdr⟩ := hrec y hy
    exact PySem.W.tab_of G.T inK hdr ht
  exact law_callGT inK G.T.g G.T.b G.T.builtins G.T.nolimit hg (fun p hp => (both p hp).2) offK (fun p hp => (both p hp).1) G.T.bmain hobj hints (Nat.le_trans hlen hn2) hr hF hb fun H hH hS => hsp H a ns hlen hH hS
end L2.Vf
/-! What holds in a lap of the law. -/
namespace L2.Vf.K01
open PySem PySem.Spec PyProof.Rows
open Evl (Ex Ev EvT EvL EvA)
open NdefX LamX
/-! ### data of tuples alone -/
mutual
def noL : PyData → Bool
  | .list _ => false
  | .dict _ => false
  | .tuple ds => noLs ds
  | .none => true
  | .bool _ => true
  | .int _ => true
  | .str _ => true
def noLs : List PyData → Bool
  | [] => true
  | d :: ds => noL d && noLs ds
end
/-! plain data: no dict, no truth value -/
mutual
def pln : PyData → Bool
  | .list ds => plns ds
  | .dict _ => false
  | .tuple ds => plns ds
  | .none => true
  | .bool _ => false
  | .int _ => true
  | .str _ => true
def plns : List PyData → Bool
  | [] => true
  | d :: ds => pln d && plns ds
end
mutual
theorem pln_eq : ∀ {d e : PyData}, pln d = true → pln e = true → (PyData.eqv d e = true ↔ d = e)
  | .none, e, h, g => by cases e <;> simp_all [PyData.eqv, pln]
  | .bool _, e, h, g => by simp [pln] at h
  | .int i, e, h, g => by cases e <;> simp_all [PyData.eqv, pln]
  | .str i, e, h, g => by cases e <;> simp_all [PyData.eqv, pln]
  | .list ds, e, h, g => by
    cases e with
    | list es =>
      have := plns_eq (ds := ds) (es := es) h g
      show PyData.eqvAll ds es = true ↔ _
      rw [this]
      exact ⟨fun z => by rw [z], fun z => by injection z⟩
    | _ => simp_all [PyData.eqv, pln]
  | .tuple ds, e, h, g => by
    cases e with
    | tuple es =>
      have := plns_eq (ds := ds) (es := es) h g
      show PyData.eqvAll ds es = true ↔ _
      rw [this]
      exact ⟨fun z => by rw [z], fun z => by injection z⟩
    | _ => simp_all [PyData.eqv, pln]
  | .dict _, e, h, g => by simp [pln] at h
theorem plns_eq : ∀ {ds es : List PyData}, plns ds = true → plns es = true → (PyData.eqvAll ds es = true ↔ ds = es)
  | [], [], _, _ => ⟨fun _ => rfl, fun _ => rfl⟩
  | [], _ :: _, _, _ => ⟨fun z => (by cases z), fun z => (by cases z)⟩
  | _ :: _, [], _, _ => ⟨fun z => (by cases z), fun z => (by cases z)⟩
  | d :: ds, e :: es, h, g => by
    have h' : (pln d && plns ds) = true := h
    have g' : (pln e && plns es) = true := g
    rw [Bool.and_eq_true] at h' g'
    show (PyData.eqv d e && PyData.eqvAll ds es) = true ↔ _
    rw [Bool.and_eq_true, pln_eq h'.1 g'.1, plns_eq h'.2 g'.2]
    exact ⟨fun z => by rw [z.1, z.2], fun z => by injection z with z1 z2; exact ⟨z1, z2⟩⟩
end
theorem noLs_of : ∀ {ds : List PyData}, (∀ d ∈ ds, noL d = true) → noLs ds = true
  | [], _ => rfl
  | d :: ds, h => by
    show (noL d && noLs ds) = true
    rw [h d List.mem_cons_self, noLs_of fun e he => h e (List.mem_cons_of_mem _ he)]
    rfl
theorem plns_of : ∀ {ds : List PyData}, (∀ d ∈ ds, pln d = true) → plns ds = true
  | [], _ => rfl
  | d :: ds, h => by
    show (pln d && plns ds) = true
    rw [h d List.mem_cons_self, plns_of fun e he => h e (List.mem_cons_of_mem _ he)]
    rfl
theorem pln_strs (xs : List Str) : plns (xs.map PyData.str) = true := plns_of fun d hd => by
  obtain ⟨x, _, rfl⟩ := List.mem_map.mp hd
  rfl
theorem pln_sorts (xs : List (Str × List Str)) : plns (xs.map sortD) = true := plns_of fun d hd => by
  obtain ⟨x, _, rfl⟩ := List.mem_map.mp hd
  show (true && (plns (x.2.map .str) && true)) = true
  rw [pln_strs]
  rfl
theorem pln_prims (xs : List (Str × Nat)) : plns (xs.map primD) = true := plns_of fun d hd => by
  obtain ⟨x, _, rfl⟩ := List.mem_map.mp hd
  rfl
theorem noL_strs (xs : List Str) : noLs (xs.map PyData.str) = true := noLs_of fun d hd => by
  obtain ⟨x, _, rfl⟩ := List.mem_map.mp hd
  rfl
theorem noL_sorts (xs : List (Str × List Str)) : noLs (xs.map sortD) = true := noLs_of fun d hd => by
  obtain ⟨x, _, rfl⟩ := List.mem_map.mp hd
  show (true && (noLs (x.2.map .str) && true)) = true
  rw [noL_strs]
  rfl
theorem noL_prims (xs : List (Str × Nat)) : noLs (xs.map primD) = true := noLs_of fun d hd => by
  obtain ⟨x, _, rfl⟩ := List.mem_map.mp hd
  rfl
/-- a part, as a tuple -/
def tp (d : PyData) : PyData := .tuple (itemsD d)
def tpD (b : Bk) : PyData := .list [tp (dS b), tp (dP b), tp (dO b), tp (dR b)]
theorem bk_ext {b b' : Bk} (h0 : b.sorts = b'.sorts) (h1 : b.prims = b'.prims) (h2 : b.ports = b'.ports) (h3 : b.reasons = b'.reasons) : b = b' := by
  cases b
  cases b'
  simp only at h0 h1 h2 h3
  rw [h0, h1, h2, h3]
theorem tpD_eq {b b' : Bk} : PyData.eqv (tpD b) (tpD b') = true ↔ b = b' := by
  have p : ∀ b : Bk, pln (tpD b) = true := fun b => by
    show (plns (b.sorts.map sortD) && (plns (b.prims.map primD) && (plns (b.ports.map .str) && (plns (b.reasons.map .str) && true)))) = true
    rw [pln_sorts, pln_prims, pln_strs, pln_strs]
    rfl
  rw [pln_eq (p b) (p b')]
  refine ⟨fun z => ?_, fun z => by rw [z]⟩
  unfold tpD at z
  injection z with z
  injection z with z0 z
  injection z with z1 z
  injection z with z2 z
  injection z with z3 z
  unfold tp at z0 z1 z2 z3
  injection z0 with z0
  injection z1 with z1
  injection z2 with z2
  injection z3 with z3
  exact bk_ext (map_inj sortD_inj z0) (map_inj primD_inj z1) (map_inj str_inj z2) (map_inj str_inj z3)
theorem bkD_eq {b b' : Bk} : PyData.eqv (bkD b) (bkD b') = true ↔ b = b' := by
  have p : ∀ b : Bk, pln (bkD b) = true := fun b => by
    show (plns ((b.sorts ++ [whyS b.reasons]).map sortD) && (plns (b.prims.map primD) && (plns ((b.ports ++ (["gone"] : List Str)).map .str) && (plns (b.reasons.map .str) && true)))) = true
    rw [pln_sorts, pln_prims, pln_strs, pln_strs]
    rfl
  rw [pln_eq (p b) (p b')]
  refine ⟨fun z => ?_, fun z => by rw [z]⟩
  unfold bkD at z
  injection z with z
  injection z with z0 z
  injection z with z1 z
  injection z with z2 z
  injection z with z3 z
  injection z0 with z0
  injection z1 with z1
  injection z2 with z2
  injection z3 with z3
  have e3 := map_inj str_inj z3
  have e0 := map_inj sortD_inj z0
  have e2 := map_inj str_inj z2
  rw [e3] at e0
  exact bk_ext (List.append_cancel_right e0) (map_inj primD_inj z1) (List.append_cancel_right e2) e3
theorem both_eq {b b' : Bk} : PyData.eqv (bkD b) (bkD b') = PyData.eqv (tpD b) (tpD b') := by
  rw [Bool.eq_iff_iff, bkD_eq, tpD_eq]
/-! ### what stays -/
/-- all but lists and sources -/
def nol (H : Hp) : Hp := fun b => match H b with
  | some (.lst _) => none
  | some (.dK _) => none
  | o => o
section
variable {K : PySem.W.Frag} {w : World} {H H' : Hp} {p c : Addr} {T : List (Addr × Str)}
theorem nol_ex : Ex (nol H) H := fun b o h => by
  unfold nol at h
  split at h
  · cases h
  · cases h
  · exact h
theorem nol_up (u : UpL H H') : Ex (nol H) (nol H') := fun b o h => by
  have h0 := nol_ex _ _ h
  have n1 : ∀ xs, o ≠ .lst xs := fun xs z => by
    unfold nol at h
    rw [h0, z] at h
    cases h
  have n2 : ∀ kv, o ≠ .dK kv := fun kv z => by
    unfold nol at h
    rw [h0, z] at h
    cases h
  have g := u _ _ h0 n1 n2
  unfold nol
  rw [g]
  cases o with
  | lst xs => exact absurd rfl (n1 xs)
  | dK kv => exact absurd rfl (n2 kv)
  | _ => rfl
theorem nol_of {b : Addr} {o : HO} (h : H b = some o) (n1 : ∀ xs, o ≠ .lst xs) (n2 : ∀ kv, o ≠ .dK kv) : nol H b = some o := by
  unfold nol
  rw [h]
  cases o with
  | lst xs => exact absurd rfl (n1 xs)
  | dK kv => exact absurd rfl (n2 kv)
  | _ => rfl
mutual
theorem Df.nol : ∀ {d : PyData} {v : V}, noL d = true → Df K w H v d → Df K w (nol H) v d
  | .none, _, _, h => by cases h; exact .non
  | .bool b, _, _, h => by cases h; exact .bl b
  | .int i, _, _, h => by cases h; exact .int i
  | .str x, _, _, h => by cases h; exact .str x
  | .list ds, _, n, _ => by cases n
  | .tuple ds, _, n, h => by
    cases h with
    | tup h1 h2 =>
      obtain ⟨its, h3, h4⟩ := h1
      exact .tup ⟨its, nol_of h3 (by intro _ z; cases z) (by intro _ z; cases z), h4⟩ (DfAll.nol n h2)
  | .dict _, _, n, _ => by cases n
theorem DfAll.nol : ∀ {ds : List PyData} {vs : List V}, noLs ds = true → DfAll K w H vs ds → DfAll K w (nol H) vs ds
  | [], _, _, h => by cases h; exact .nil
  | d :: ds, _, n, h => by
    have n' : (noL d && noLs ds) = true := n
    rw [Bool.and_eq_true] at n'
    cases h with
    | cons h1 h2 => exact .cons (Df.nol n'.1 h1) (DfAll.nol n'.2 h2)
end
theorem upL_of (S : Src2 H p c) (b : But [p, c] H H') : UpL H H' := fun x o h n1 n2 => b.get (fun z => by
  obtain ⟨cells, l, m, t, e, h1, h2, h3⟩ := S
  simp only [List.mem_cons, List.not_mem_nil, or_false] at z
  rcases z with rfl | rfl
  · rw [h] at h1
    injection h1 with h1
    exact n2 _ h1
  · rw [h] at h3
    injection h3 with h3
    exact n1 _ h3) h
theorem Tabs.up (h : Tabs T H) (u : UpL H H') : Tabs T H' := fun q hq => by
  obtain ⟨ps, h1, h2, h3⟩ := h q hq
  exact ⟨ps, u _ _ h1 (by intro _ z; cases z) (by intro _ z; cases z), h2, fun pos cv hc => by
    obtain ⟨c, e, g⟩ := h3 pos cv hc
    exact ⟨c, e, u _ _ g (by intro _ z; unfold CodeO at z; cases z) (by intro _ z; unfold CodeO at z; cases z)⟩⟩
theorem Src2.xn (S : Src2 H p c) (e : ExtN H H') : Src2 H' p c := by
  obtain ⟨cells, l, m, t, e', h1, h2, h3⟩ := S
  exact ⟨cells, l, m, t, e', e _ _ h1 (by intro _ z; cases z), h2, e _ _ h3 (by intro _ z; cases z)⟩
theorem but_xn (b : But [p, c] H H') : ExtN (hide [p, c] H) (hide [p, c] H') := ExtN.of b
end
/-- what stays from lap to lap -/
structure Lc (K : PySem.W.Frag) (w : World) (T : List (Addr × Str)) (p c O : Addr) (os : List V) (odds : List PyData) (H : Hp) : Prop where
  src : Src2 H p c
  list : SqL K (hide [p, c] H) O os
  df : DfAll K w (hide [p, c] H) os odds
  tabs : Tabs T H
structure Od (os : List V) (odds : List PyData) : Prop where
  ok : OddOk odds
  l2 : 2 ≤ os.length
  l100 : os.length ≤ 100
/-- the parts that are drawn; H0: before they were -/
structure Ld (K : PySem.W.Frag) (w : World) (T : List (Addr × Str)) (p c O : Addr) (os : List V) (odds : List PyData) (H0 : Hp) (a : Addr) (b : Bk) (xs : List Addr) (H : Hp) : Prop where
  l0 : Lc K w T p c O os odds H0
  e : ExtN (hide [p, c] H0) (hide [p, c] H)
  src : Src2 H p c
  tabs : Tabs T H
  nw : ∀ x ∈ xs, H0 x = none ∧ x ≠ a
  sys : a ≠ sysModules
  own : (hide [p, c] H) a = some (.lst (xs.map V.ref))
  parts : DfAll K w (hide [p, c] H) (xs.map V.ref) [dS b, dP b, dO b, dR b]
  drawn : Drawn b
section
variable {K : PySem.W.Frag} {w : World} {T : List (Addr × Str)} {p c O a : Addr} {os : List V} {odds : List PyData} {H H' H0 : Hp} {b : Bk} {xs : List Addr}
theorem Lc.xn (L : Lc K w T p c O os odds H) (e : ExtN (hide [p, c] H) (hide [p, c] H')) (S : Src2 H' p c) (t : Tabs T H') : Lc K w T p c O os odds H' :=
  ⟨S, extN_l e L.list, DfAll.xn e L.df, t⟩
theorem Ld.now (L : Ld K w T p c O os odds H0 a b xs H) : Lc K w T p c O os odds H := L.l0.xn L.e L.src L.tabs
theorem Ld.xn (L : Ld K w T p c O os odds H0 a b xs H) (e : ExtN (hide [p, c] H) (hide [p, c] H')) (S : Src2 H' p c) (t : Tabs T H') : Ld K w T p c O os odds H0 a b xs H' :=
  ⟨L.l0, L.e.trans e, S, t, L.nw, L.sys, e _ _ L.own (by intro _ z; cases z), DfAll.xn e L.parts, L.drawn⟩
theorem Ld.but (L : Ld K w T p c O os odds H0 a b xs H) (e : But [p, c] H H') (S : Src2 H' p c) : Ld K w T p c O os odds H0 a b xs H' := L.xn (but_xn e) S (Tabs.up L.tabs (upL_of L.src e))
theorem Ld.ex (L : Ld K w T p c O os odds H0 a b xs H) (e : Ex H H') : Ld K w T p c O os odds H0 a b xs H' := L.but (But.of e) (L.src.ex e)
theorem Ld.df (L : Ld K w T p c O os odds H0 a b xs H) : Df K w (hide [p, c] H) (.ref a) (.list [dS b, dP b, dO b, dR b]) := .lst L.sys L.own L.parts
theorem Ld.cnt (L : Ld K w T p c O os odds H0 a b xs H) : Vf.cnt (.list [dS b, dP b, dO b, dR b]) ≤ 51 := by
  have := drawn_cnt L.drawn
  show cntAll [dS b, dP b, dO b, dR b] + 1 ≤ 51
  omega
theorem Ld.four (L : Ld K w T p c O os odds H0 a b xs H) : Four K w H a (dS b) (dP b) (dO b) (dR b) := four_df (Df.ex hide_ex L.df) rfl (drawn_sm L.drawn) (by have := L.cnt; omega)
theorem Ld.fourR (L : Ld K w T p c O os odds H0 a b xs H) : FourR K w H a b := L.four.r (drawn_right L.drawn)
end
/-- the tight parts -/
structure Tg (K : PySem.W.Frag) (w : World) (H : Hp) (t : Addr) (b : Bk) (vs : List V) : Prop where
  own : H t = some (.lst vs)
  tp : DfAll K w (nol H) vs [tp (dS b), tp (dP b), tp (dO b), tp (dR b)]
theorem tp_right {b : Bk} (h : Drawn b) : Right (tp (dS b)) (tp (dP b)) (tp (dO b)) (tp (dR b)) b := by
  have R := drawn_right h
  exact ⟨rfl, rfl, rfl, rfl, R.i0, R.i1, R.i2, R.i3, R.n0, R.y0, R.n1⟩
theorem tp_none {b : Bk} (h : Drawn b) : bookR (tp (dS b)) (tp (dP b)) (tp (dO b)) (tp (dR b)) = none := drawn_none h
section
variable {K : PySem.W.Frag} {w : World} {H H' : Hp} {t : Addr} {b : Bk} {vs : List V}
theorem Tg.to (h : Tg K w H t b vs) (u : UpL H H') (o : H' t = some (.lst vs)) : Tg K w H' t b vs := ⟨o, DfAll.ex (nol_up u) h.tp⟩
theorem Tg.dfs (h : Tg K w H t b vs) : DfAll K w H vs [Vf.K01.tp (dS b), Vf.K01.tp (dP b), Vf.K01.tp (dO b), Vf.K01.tp (dR b)] := DfAll.ex nol_ex h.tp
theorem Tg.four (h : Tg K w H t b vs) (dr : Drawn b) : Four K w H t (Vf.K01.tp (dS b)) (Vf.K01.tp (dP b)) (Vf.K01.tp (dO b)) (Vf.K01.tp (dR b)) := by
  refine ⟨⟨true, vs, SqL.of h.own, h.dfs.dw, fun v hv => ?_⟩, drawn_sm dr, Nat.le_trans (drawn_cnt dr) (by decide)⟩
  obtain ⟨e, he, g⟩ := h.dfs.at_ hv
  obtain rfl := Option.some.inj he
  exact df_top g
theorem Tg.fourR (h : Tg K w H t b vs) (dr : Drawn b) : FourR K w H t b := (h.four dr).r (tp_right dr)
end
/-- what holds before each look -/
structure Li (K : PySem.W.Frag) (w : World) (T : List (Addr × Str)) (C p c O : Addr) (os : List V) (odds : List PyData) (H0 : Hp) (a : Addr) (b : Bk) (xs : List Addr) (q t : Addr) (vs : List V) (q' : Addr) (H : Hp) : Prop where
  d : Ld K w T p c O os odds H0 a b xs H
  bk : BookAt K w H C q b
  tg : Tg K w H t b vs
  tS : t ∉ [p, c]
  tx : ∀ x ∈ xs, x ≠ t
  ot : BookAt K w H C q' b
section
variable {K : PySem.W.Frag} {w : World} {T : List (Addr × Str)} {C p c O a q t q' : Addr} {os vs : List V} {odds : List PyData} {H H' H0 : Hp} {b : Bk} {xs : List Addr}
theorem Li.but (L : Li K w T C p c O os odds H0 a b xs q t vs q' H) (e : But [p, c] H H') (S : Src2 H' p c) : Li K w T C p c O os odds H0 a b xs q t vs q' H' := by
  have u := upL_of L.d.src e
  exact ⟨L.d.but e S, L.bk.up u, L.tg.to u (e.get L.tS L.tg.own), L.tS, L.tx, L.ot.up u⟩
theorem Li.ex (L : Li K w T C p c O os odds H0 a b xs q t vs q' H) (e : Ex H H') : Li K w T C p c O os odds H0 a b xs q t vs q' H' := L.but (But.of e) (L.d.src.ex e)
end
end L2.Vf.K01
/-! A lap of the law, up to the looks. -/
namespace L2.Vf.K01
open PySem PySem.Spec PyProof.Rows
open Evl (Ex Ev EvT EvL EvA)
open NdefX LamX
/-- the law's slots -/
abbrev sl (z p : Addr) (ys : List (Option V)) : St := some (.ref z) :: some (.ref p) :: ys
section
variable (K : PySem.W.Frag) (w : World) (C CB : Addr) (T : List (Addr × Str))
def t1 : TS := tAsg (tCall (spBookParts K w) [] E0 (tCons (tVar 1) tNil)) (gName 4)
def t2 : TS := tAsg (tCall (spLawBook K w C CB) [] E0 (tCons (tVar 4) tNil)) (gName 5)
def t3 : TS := tIfS (tOr (tNot fun σ H Q => tCall (spToldRight K w C) [] E0 (tCons (tVar 5) (tCons (tVar 4) tNil)) σ H fun x H' => ∃ k, TruV K x H' k ∧ Q k H')
  (tNot fun σ H Q => tCall (spLooks K w C T) [] E0 (tCons (tVar 1) (tCons (tVar 5) (tCons (tVar 4) tNil))) σ H fun x H' => ∃ k, TruV K x H' k ∧ Q k H')) (tRet (tC (.bl false))) tNext
def t4 : TS := tAsg (tLc (iList K (tVar 4)) (gName 13) tYes (tCB (rTupF K) (tCons (tVar 13) tNil)) [13]) (gName 6)
def t5 : TS := tAsg (tCall (spLawBook K w C CB) [] E0 (tCons (tVar 6) tNil)) (gName 7)
end
section
variable {K : PySem.W.Frag} {w : World} {T : List (Addr × Str)} {C CB p c O a q t q' z : Addr} {os vs : List V} {odds : List PyData} {H H' H0 : Hp} {b : Bk} {xs : List Addr} {D : Ends} {y2 y3 y4 y5 y6 y7 y8 y9 y10 y11 y12 y13 y14 : Option V}
theorem t1_ok (L : Lc K w T p c O os odds H) (h : ∀ (a : Addr) (b : Bk) (xs : List Addr) (H' : Hp), Ld K w T p c O os odds H a b xs H' → D.nx (sl z p [y2, y3, some (.ref a), y5, y6, y7, y8, y9, y10, y11, y12, y13, y14]) H') :
    t1 K w D (sl z p [y2, y3, y4, y5, y6, y7, y8, y9, y10, y11, y12, y13, y14]) H := by
  unfold t1
  exact ⟨_, rfl, p, c, rfl, L.src, fun a b xs H' S' b' dr nw sys own parts => h a b xs H' ⟨L, but_xn b', S', Tabs.up L.tabs (upL_of L.src b'), nw, sys, own, parts, dr⟩⟩
theorem t2_ok (L : Ld K w T p c O os odds H0 a b xs H) (h : ∀ (q : Addr) (H' : Hp), Ld K w T p c O os odds H0 a b xs H' → BookAt K w H' C q b → D.nx (sl z p [y2, y3, some (.ref a), some (.ref q), y6, y7, y8, y9, y10, y11, y12, y13, y14]) H') :
    t2 K w C CB D (sl z p [y2, y3, some (.ref a), y5, y6, y7, y8, y9, y10, y11, y12, y13, y14]) H := by
  unfold t2
  refine ⟨_, rfl, a, dS b, dP b, dO b, dR b, rfl, L.four, fun b' hn R H' q B e => ?_, fun path hb => by rw [drawn_none L.drawn] at hb; cases hb⟩
  obtain rfl := right_uniq R (drawn_right L.drawn)
  exact h q H' (L.ex e) B
theorem t3_ok (L : Ld K w T p c O os odds H0 a b xs H) (B : BookAt K w H C q b) (h : ∀ (H' : Hp), Ld K w T p c O os odds H0 a b xs H' → BookAt K w H' C q b → D.nx (sl z p [y2, y3, some (.ref a), some (.ref q), y6, y7, y8, y9, y10, y11, y12, y13, y14]) H') :
    t3 K w C T D (sl z p [y2, y3, some (.ref a), some (.ref q), y6, y7, y8, y9, y10, y11, y12, y13, y14]) H := by
  unfold t3
  refine ⟨_, rfl, _, rfl, q, a, b, rfl, B, L.fourR, fun H1 e1 => ⟨true, rfl, iteF ?_⟩⟩
  have L1 := L.ex e1
  have B1 := B.up (UpL.of e1)
  refine ⟨_, rfl, _, rfl, _, rfl, _, _, q, b, rfl, B1, L.drawn, L1.tabs, fun H2 e2 T2 => ⟨true, rfl, iteF ?_⟩⟩
  exact h H2 (L1.xn (xn_hide e2) (Src2.xn L1.src e2) T2) (extN_book e2 B1)
/-- parts made tuples -/
theorem tight_go {bb : Bool} {r : Addr} {ds : List PyData} {Q : VK} (hs : SqB K bb H r vs) (hd : DfAll K w H vs ds) (hp : ∀ d ∈ ds, (lstD d || tupD d) = true ∧ noLs (itemsD d) = true) (l : ds.length ≤ 10)
    (h : ∀ D0 us H', H D0 = none → Ex H H' → H' D0 = some (.lst us) → DfAll K w (nol H') us (ds.map tp) → Q (.ref D0) H') :
    tLc (fun _ H R => R (ItB K bb r) H) (gName 13) tYes (tCB (rTupF K) (tCons (tVar 13) tNil)) [13] (sl z p [y2, y3, y4, y5, y6, y7, y8, y9, y10, y11, y12, y13, y14]) H Q := by
  intro D0 nD
  have lv := hd.len
  have sz : sizeLine = 16777216 := sizeLine_eq
  refine lc_it (walk_b (K := K) (b := bb) (a := r) (xs := vs)) (fun i H' => ∃ us : List V, H' D0 = some (.lst us) ∧ Ex H H' ∧ us.length = i ∧ DfAll K w (nol H') us ((ds.take i).map tp)) ⟨[], upd_same, Ex.new nD, rfl, .nil⟩ (fun i H' _ h => by obtain ⟨us, _, e, _⟩ := h; exact hs.mono e) ?_ ?_
  · rintro i x _ H1 hi ⟨us, hD, e, lu, da⟩ ⟨rfl, hx⟩
    obtain ⟨d, hdi, D1⟩ := hd.at_ hx
    obtain ⟨p1, p2⟩ := hp d (List.mem_of_getElem? hdi)
    have et : (ds.take (i + 1)).map tp = (ds.take i).map tp ++ [tp d] := by
      rw [List.take_succ, hdi, List.map_append]
      rfl
    cases D1 with
    | @lst x0 ys es hm hl hds =>
      refine ⟨rfl, _, rfl, x0, ys, rfl, .inl ⟨SqL.of (e _ _ hl), fun y its hv ny => ?_⟩⟩
      have e1 := Ex.new (o := HO.frz (tupO its) (.tup ys)) ny
      have hD1 := e1 _ _ hD
      have yD : y ≠ D0 := (ne_of_none hD ny).symm
      refine ⟨us, hD1, by omega, us ++ [V.ref y], upd_same, (e.trans e1).mut nD, by rw [List.length_append, lu]; rfl, ?_⟩
      have uD : UpL (upd H1 y (.frz (tupO its) (.tup ys))) (upd (upd H1 y (.frz (tupO its) (.tup ys))) D0 (.lst (us ++ [V.ref y]))) := fun b o hb n1 _ => by
        rw [upd_ne (fun z => by rw [z, hD1] at hb; injection hb with hb; exact n1 _ hb.symm)]
        exact hb
      rw [et]
      refine DfAll.app (DfAll.ex (nol_up ((UpL.of e1).trans uD)) da) (.cons (.tup ⟨its, nol_of (by rw [upd_ne yD]; exact upd_same) (by intro _ z; cases z) (by intro _ z; cases z), hv⟩ ?_) .nil)
      exact DfAll.ex (nol_up ((UpL.of (e.trans e1)).trans uD)) (DfAll.nol p2 hds)
    | @tup x0 ys es ht hds =>
      refine ⟨rfl, _, rfl, x0, ys, rfl, .inr ⟨Evl.ex_t e ht.sq, ?_⟩⟩
      refine ⟨us, hD, by omega, us ++ [V.ref x0], upd_same, e.mut nD, by rw [List.length_append, lu]; rfl, ?_⟩
      have uD : UpL H1 (upd H1 D0 (.lst (us ++ [V.ref x0]))) := fun b o hb n1 _ => by
        rw [upd_ne (fun z => by rw [z, hD] at hb; injection hb with hb; exact n1 _ hb.symm)]
        exact hb
      rw [et]
      refine DfAll.app (DfAll.ex (nol_up uD) da) (.cons (Df.ex (nol_up ((UpL.of e).trans uD)) (Df.nol (d := .tuple es) p2 (.tup ht hds))) .nil)
    | _ => cases p1
  · rintro H1 ⟨us, hD, e, lu, da⟩
    rw [lv, List.take_length] at da
    exact h D0 us H1 nD e hD da
theorem four_no (b : Bk) : ∀ d ∈ [dS b, dP b, dO b, dR b], (lstD d || tupD d) = true ∧ noLs (itemsD d) = true := fun d hd => by
  simp only [List.mem_cons, List.not_mem_nil, or_false] at hd
  rcases hd with rfl | rfl | rfl | rfl
  · exact ⟨rfl, noL_sorts _⟩
  · exact ⟨rfl, noL_prims _⟩
  · exact ⟨rfl, noL_strs _⟩
  · exact ⟨rfl, noL_strs _⟩
theorem Ld.lst (L : Ld K w T p c O os odds H0 a b xs H) : ∀ x ∈ xs, x ∉ [p, c] ∧ ∃ ys, H x = some (.lst ys) := fun x hx => by
  obtain ⟨i, hi⟩ := List.getElem?_of_mem hx
  obtain ⟨d, hd, D1⟩ := L.parts.at_ (i := i) (v := .ref x) (by rw [List.getElem?_map, hi]; rfl)
  obtain ⟨es, rfl⟩ := four_list hd
  cases D1 with
  | lst hm hl hds =>
    refine ⟨fun m => ?_, _, hide_ex _ _ hl⟩
    unfold hide at hl
    rw [if_pos m] at hl
    cases hl
theorem t4_ok (L : Ld K w T p c O os odds H0 a b xs H) (B : BookAt K w H C q b) (h : ∀ (t : Addr) (vs : List V) (H' : Hp), Ld K w T p c O os odds H0 a b xs H' → BookAt K w H' C q b → Tg K w H' t b vs → t ∉ [p, c] → (∀ x ∈ xs, x ≠ t) → D.nx (sl z p [y2, y3, some (.ref a), some (.ref q), some (.ref t), y7, y8, y9, y10, y11, y12, y13, y14]) H') :
    t4 K D (sl z p [y2, y3, some (.ref a), some (.ref q), y6, y7, y8, y9, y10, y11, y12, y13, y14]) H := by
  unfold t4
  have hown := hide_ex _ _ L.own
  refine ⟨_, rfl, a, rfl, ⟨_, SqL.of hown⟩, tight_go (bb := true) (r := a) (z := z) (p := p) (y2 := y2) (y3 := y3) (y4 := some (.ref a)) (y5 := some (.ref q)) (y6 := y6) (y7 := y7) (y8 := y8) (y9 := y9) (y10 := y10) (y11 := y11) (y12 := y12) (y13 := y13) (y14 := y14) (Q := fun x H1 => D.nx (sl z p [y2, y3, some (.ref a), some (.ref q), some x, y7, y8, y9, y10, y11, y12, y13, y14]) H1) (SqL.of hown) (DfAll.ex hide_ex L.parts) (four_no b) (Nat.le_of_ble_eq_true rfl) fun t us H' nt e ht da => ?_⟩
  exact h t us H' (L.ex e) (B.up (UpL.of e)) ⟨ht, da⟩ (L.src.kn.off nt) (fun x hx => by
    obtain ⟨_, ys, hy⟩ := L.lst x hx
    exact ne_of_none hy nt)
theorem t5_ok (L : Ld K w T p c O os odds H0 a b xs H) (B : BookAt K w H C q b) (G : Tg K w H t b vs) (tS : t ∉ [p, c]) (tx : ∀ x ∈ xs, x ≠ t) (h : ∀ (q' : Addr) (H' : Hp), Li K w T C p c O os odds H0 a b xs q t vs q' H' → D.nx (sl z p [y2, y3, some (.ref a), some (.ref q), some (.ref t), some (.ref q'), y8, y9, y10, y11, y12, y13, y14]) H') :
    t5 K w C CB D (sl z p [y2, y3, some (.ref a), some (.ref q), some (.ref t), y7, y8, y9, y10, y11, y12, y13, y14]) H := by
  unfold t5
  refine ⟨_, rfl, t, _, _, _, _, rfl, G.four L.drawn, fun b' hn R H' q' B' e => ?_, fun path hb => by rw [tp_none L.drawn] at hb; cases hb⟩
  obtain rfl := right_uniq R (tp_right L.drawn)
  exact h q' H' ⟨L.ex e, B.up (UpL.of e), G.to (UpL.of e) (e _ _ G.own), tS, tx, B'⟩
end
end L2.Vf.K01
/-! A look: parts that are bent. -/
namespace L2.Vf.K01
open PySem PySem.Spec PyProof.Rows
open Evl (Ex Ev EvT EvL EvA)
open NdefX LamX
section
variable (K : PySem.W.Frag) (w : World) (C CB : Addr)
def u1 : TS := tAsg (tCall (spBentLess K w 6) [] E0 (tCons (tVar 1) (tCons (tVar 4) (tCons (tC (.int 5)) (tCons (tVar 2) tNil))))) (gName 9)
def u2 : TS := tAsg (tIf (tTest (tOp rEq (tCall spPick2 [] E0 (tCons (tVar 1) (tCons (tC (.int 3)) tNil))) (tC (.int 0)))) (tCall (spBentLess K w 6) [] E0 (tCons (tVar 1) (tCons (tVar 9) (tCons (tC (.int 5)) (tCons (tVar 2) tNil))))) (tVar 9)) (gName 9)
def u3 : TS := tAsg (tIf (tTest (tOp rEq (tCall spPick2 [] E0 (tCons (tVar 1) (tCons (tC (.int 4)) tNil))) (tC (.int 0)))) (tCall (spTurned K w) [] E0 (tCons (tVar 1) (tCons (tVar 4) tNil))) (tVar 9)) (gName 9)
def u4 : TS := tIfS (tOr (tNot fun σ H Q => tCall (spIsListing K w) [] E0 (tCons (tVar 9) tNil) σ H fun x H' => ∃ k, TruV K x H' k ∧ Q k H') (tTest (tOp rNe (tCB (Evl.rLenS K) (tCons (tVar 9) tNil)) (tC (.int 4))))) tCont tNext
def u5 : TS := tPar 10 11 (tCons (tCall (spWrongBook K w) [] E0 (tCons (tVar 9) tNil)) (tCons (tCB (rReprA K w) (tCons (tVar 9) tNil)) tNil))
def u6 : TS := tIfS (tAnd (tTest (tOp (rEqE K) (tVar 10) (tLstN tNil))) (tNot fun σ H Q => tCall (spIsSmall K w) [] E0 (tCons (tVar 9) tNil) σ H fun x H' => ∃ k, TruV K x H' k ∧ Q k H')) tCont tNext
def u7 : TS := tIfS (tOr (tTest (tOp (rNeD K) (tCall (spLawRefused K w) [] E0 (tCons (tVar 9) tNil)) (tVar 10))) (tTest (tOp rNe (tCB (rReprA K w) (tCons (tVar 9) tNil)) (tVar 11)))) (tRet (tC (.bl false))) tNext
def u8 : TS := tIfS (tTest (tOp (rEqE K) (tVar 10) (tLstN tNil))) (tSeq (tAsg (tOp (rEqD K) (tVar 6) (tLc (iSqB K (tVar 9)) (gName 13) tYes (tCB (rTupF K) (tCons (tVar 13) tNil)) [13])) (gName 12))
  (tIfS (tOr (tNot fun σ H Q => tCall (spToldRight K w C) [] E0 (tCons (tCall (spLawBook K w C CB) [] E0 (tCons (tVar 9) tNil)) (tCons (tVar 9) tNil)) σ H fun x H' => ∃ k, TruV K x H' k ∧ Q k H')
    (tTest (tOp rNe (tOp (rOwnEq K w C (spEq K w C) E0 id) (tVar 5) (tCall (spLawBook K w C CB) [] E0 (tCons (tVar 9) tNil))) (tVar 12)))) (tRet (tC (.bl false))) tNext)) tNext
end
mutual
theorem depth_cnt : ∀ d : PyData, d.depth ≤ cnt d
  | .none => Nat.zero_le _
  | .bool _ => Nat.zero_le _
  | .int _ => Nat.zero_le _
  | .str _ => Nat.zero_le _
  | .list ds => Nat.succ_le_succ (depth_cntA ds)
  | .tuple ds => Nat.succ_le_succ (depth_cntA ds)
  | .dict kv => Nat.succ_le_succ (depth_cntK kv)
theorem depth_cntA : ∀ ds : List PyData, PyData.depthAll ds ≤ cntAll ds
  | [] => Nat.le_refl _
  | d :: ds => by
    have h1 := depth_cnt d
    have h2 := depth_cntA ds
    show max d.depth (PyData.depthAll ds) ≤ cnt d + cntAll ds
    omega
theorem depth_cntK : ∀ kv : List (PyData × PyData), PyData.depthKv kv ≤ cntKv kv
  | [] => Nat.le_refl _
  | (k, v) :: kv => by
    have h1 := depth_cnt k
    have h2 := depth_cnt v
    have h3 := depth_cntK kv
    show max (max k.depth v.depth) (PyData.depthKv kv) ≤ cnt k + cnt v + cntKv kv
    omega
end
/-- what is bent -/
structure Tl (K : PySem.W.Frag) (w : World) (p c : Addr) (v : V) (d : PyData) (n : Nat) (H : Hp) : Prop where
  df : Df K w (hide [p, c] H) v d
  sm : smD d = true
  cn : cnt d ≤ n
theorem Tl.but {K : PySem.W.Frag} {w : World} {p c : Addr} {v : V} {d : PyData} {n : Nat} {H H' : Hp} (h : Tl K w p c v d n H) (e : But [p, c] H H') : Tl K w p c v d n H' := ⟨h.df.ex e, h.sm, h.cn⟩
theorem Tl.ex {K : PySem.W.Frag} {w : World} {p c : Addr} {v : V} {d : PyData} {n : Nat} {H H' : Hp} (h : Tl K w p c v d n H) (e : Ex H H') : Tl K w p c v d n H' := h.but (But.of e)
/-- four parts of it -/
structure Tf (d : PyData) (d0 d1 d2 d3 : PyData) : Prop where
  ls : (lstD d || tupD d) = true
  it : itemsD d = [d0, d1, d2, d3]
def pathD : Option (List Int) → PyData
  | none => .list []
  | some path => .list [.tuple (path.map .int)]
theorem path_lay : ∀ r, SeqAt.shaped (pathD r) = true
  | none => by decide +kernel
  | some path => by
    have h := lay_all (ds := path.map PyData.int) (n := 0) fun d hd => by
      obtain ⟨i, _, rfl⟩ := List.mem_map.mp hd
      exact ⟨rfl, Nat.le_refl _⟩
    show (PyData.canLay0 (pathD (some path)) && decide ((pathD (some path)).depth ≤ 64)) = true
    rw [Bool.and_eq_true]
    constructor
    · show ((PyData.canLayAll0 (path.map PyData.int)) && true) = true
      rw [h.1]
      rfl
    · refine decide_eq_true ?_
      show max (PyData.depthAll (path.map PyData.int) + 1) 0 + 1 ≤ 64
      have := h.2
      omega
theorem dp_path {K : PySem.W.Frag} {H : Hp} : ∀ path : List Int, DpAll K H (path.map V.int) (path.map PyData.int)
  | [] => .nil
  | i :: path => .cons (.int i) (dp_path path)
theorem PathV.dp {K : PySem.W.Frag} {H : Hp} {l : Addr} {r : Option (List Int)} (h : PathV K H l r) : Dp K H (.ref l) (pathD r) := by
  cases r with
  | none => exact .lst (SqL.of h) .nil
  | some path =>
    obtain ⟨t, h1, h2⟩ := h
    exact .lst (SqL.of h1) (.cons (.tup h2 (dp_path path)) .nil)
theorem PathV.ex {K : PySem.W.Frag} {H H' : Hp} {l : Addr} {r : Option (List Int)} (h : PathV K H l r) (e : Ex H H') : PathV K H' l r := by
  cases r with
  | none => exact e _ _ h
  | some path =>
    obtain ⟨t, h1, h2⟩ := h
    exact ⟨t, e _ _ h1, Evl.ex_t e h2⟩
theorem PathV.emp {K : PySem.W.Frag} {H : Hp} {l : Addr} {r : Option (List Int)} (h : PathV K H l r) : ∃ xs, H l = some (.lst xs) ∧ xs.isEmpty = r.isNone := by
  cases r with
  | none => exact ⟨_, h, rfl⟩
  | some path =>
    obtain ⟨t, h1, h2⟩ := h
    exact ⟨_, h1, rfl⟩
theorem tp_lay {b : Bk} (h : BkSm b) : SeqAt.shaped (tpD b) = true := by
  obtain ⟨a1, a2⟩ := lay_sorts h.s
  obtain ⟨p1, p2⟩ := lay_prims h.p
  obtain ⟨o1, o2⟩ := lay_strs h.o
  obtain ⟨r1, r2⟩ := lay_strs h.r
  show (PyData.canLay0 (tpD b) && decide ((tpD b).depth ≤ 64)) = true
  rw [Bool.and_eq_true]
  constructor
  · show (PyData.canLayAll0 (b.sorts.map sortD) && (PyData.canLayAll0 (b.prims.map primD) && (PyData.canLayAll0 (b.ports.map .str) && (PyData.canLayAll0 (b.reasons.map .str) && true)))) = true
    rw [a1, p1, o1, r1]
    rfl
  · refine decide_eq_true ?_
    show max (PyData.depthAll (b.sorts.map sortD) + 1) (max (PyData.depthAll (b.prims.map primD) + 1) (max (PyData.depthAll (b.ports.map .str) + 1) (max (PyData.depthAll (b.reasons.map .str) + 1) 0))) + 1 ≤ 64
    omega
theorem bk_lay {b : Bk} (h : BkSm b) : SeqAt.shaped (bkD b) = true := due_lay h
mutual
theorem Df.dp {K : PySem.W.Frag} {w : World} {H : Hp} : ∀ {d : PyData} {v : V}, noL d = true → Df K w H v d → Dp K H v d
  | .none, _, _, h => by cases h; exact .non
  | .bool b, _, _, h => by cases h; exact .bl b
  | .int i, _, _, h => by cases h; exact .int i
  | .str x, _, _, h => by cases h; exact .str x
  | .list ds, _, n, _ => by cases n
  | .tuple ds, _, n, h => by
    cases h with
    | tup h1 h2 => exact .tup h1.sq (DfAll.dp n h2)
  | .dict _, _, n, _ => by cases n
theorem DfAll.dp {K : PySem.W.Frag} {w : World} {H : Hp} : ∀ {ds : List PyData} {vs : List V}, noLs ds = true → DfAll K w H vs ds → DpAll K H vs ds
  | [], _, _, h => by cases h; exact .nil
  | d :: ds, _, n, h => by
    have n' : (noL d && noLs ds) = true := n
    rw [Bool.and_eq_true] at n'
    cases h with
    | cons h1 h2 => exact .cons (Df.dp n'.1 h1) (DfAll.dp n'.2 h2)
end
theorem tp_noLs (b : Bk) : noLs [tp (dS b), tp (dP b), tp (dO b), tp (dR b)] = true := by
  show (noLs (b.sorts.map sortD) && (noLs (b.prims.map primD) && (noLs (b.ports.map .str) && (noLs (b.reasons.map .str) && true)))) = true
  rw [noL_sorts, noL_prims, noL_strs, noL_strs]
  rfl
theorem right_tp {d0 d1 d2 d3 : PyData} {b : Bk} (R : Right d0 d1 d2 d3 b) : [d0, d1, d2, d3].map tp = [tp (dS b), tp (dP b), tp (dO b), tp (dR b)] := by
  show [PyData.tuple (itemsD d0), .tuple (itemsD d1), .tuple (itemsD d2), .tuple (itemsD d3)] = _
  rw [R.i0, R.i1, R.i2, R.i3]
  rfl
theorem right_no {d0 d1 d2 d3 : PyData} {b : Bk} (R : Right d0 d1 d2 d3 b) : ∀ d ∈ [d0, d1, d2, d3], (lstD d || tupD d) = true ∧ noLs (itemsD d) = true := fun d hd => by
  simp only [List.mem_cons, List.not_mem_nil, or_false] at hd
  rcases hd with rfl | rfl | rfl | rfl
  · exact ⟨R.l0, by rw [R.i0]; exact noL_sorts _⟩
  · exact ⟨R.l1, by rw [R.i1]; exact noL_prims _⟩
  · exact ⟨R.l2, by rw [R.i2]; exact noL_strs _⟩
  · exact ⟨R.l3, by rw [R.i3]; exact noL_strs _⟩
section
variable {K : PySem.W.Frag} {w : World} {T : List (Addr × Str)} {C CB p c O a q t q' z r l : Addr} {os vs : List V} {odds : List PyData} {H H' H0 : Hp} {b : Bk} {xs : List Addr} {D : Ends} {y2 y3 y4 y5 y6 y7 y8 y9 y10 y11 y12 y13 y14 : Option V} {v : V} {d d0 d1 d2 d3 : PyData} {n : Nat}
theorem u1_ok (L : Li K w T C p c O os odds H0 a b xs q t vs q' H) (Oo : Od os odds) (h : ∀ (v : V) (d : PyData) (H' : Hp), Li K w T C p c O os odds H0 a b xs q t vs q' H' → Tl K w p c v d 56 H' → D.nx (sl z p [some (.ref O), y3, some (.ref a), y5, y6, y7, y8, some v, y10, y11, y12, y13, y14]) H') :
    u1 K w D (sl z p [some (.ref O), y3, some (.ref a), y5, y6, y7, y8, y9, y10, y11, y12, y13, y14]) H := by
  unfold u1
  have N := L.d.now
  have cn := L.d.cnt
  exact ⟨_, rfl, _, rfl, _, rfl, 5, by decide, p, c, O, .ref a, _, os, odds, rfl, L.d.src, L.d.df, drawn_sm L.d.drawn, by omega, N.list, N.df, Oo.ok, Oo.l2, Oo.l100, fun v d H' S' b' hd hs hc => h v d H' (L.but b' S') ⟨hd, hs, by omega⟩⟩
theorem u2_ok (L : Li K w T C p c O os odds H0 a b xs q t vs q' H) (Oo : Od os odds) (B : Tl K w p c v d 56 H) (h : ∀ (v : V) (d : PyData) (H' : Hp), Li K w T C p c O os odds H0 a b xs q t vs q' H' → Tl K w p c v d 61 H' → D.nx (sl z p [some (.ref O), y3, some (.ref a), y5, y6, y7, y8, some v, y10, y11, y12, y13, y14]) H') :
    u2 K w D (sl z p [some (.ref O), y3, some (.ref a), y5, y6, y7, y8, some v, y10, y11, y12, y13, y14]) H := by
  unfold u2
  refine ⟨_, rfl, p, c, 3, rfl, L.d.src, by decide, by decide, fun m H1 m0 m3 S1 b1 => ⟨rfl, _, rfl, ite2 (fun _ => ?_) (fun _ => ?_)⟩⟩
  · have L1 := L.but b1 S1
    have B1 := B.but b1
    have N := L1.d.now
    have cn := B1.cn
    exact ⟨_, rfl, _, rfl, _, rfl, 5, by decide, p, c, O, v, d, os, odds, rfl, S1, B1.df, B1.sm, by omega, N.list, N.df, Oo.ok, Oo.l2, Oo.l100, fun v d H' S' b' hd hs hc => h v d H' (L1.but b' S') ⟨hd, hs, by omega⟩⟩
  · exact ⟨_, rfl, h v d H1 (L.but b1 S1) ⟨(B.but b1).df, B.sm, by have := B.cn; omega⟩⟩
theorem u3_ok (L : Li K w T C p c O os odds H0 a b xs q t vs q' H) (B : Tl K w p c v d 61 H) (h : ∀ (v : V) (d : PyData) (H' : Hp), Li K w T C p c O os odds H0 a b xs q t vs q' H' → Tl K w p c v d 61 H' → D.nx (sl z p [y2, y3, some (.ref a), y5, y6, y7, y8, some v, y10, y11, y12, y13, y14]) H') :
    u3 K w D (sl z p [y2, y3, some (.ref a), y5, y6, y7, y8, some v, y10, y11, y12, y13, y14]) H := by
  unfold u3
  refine ⟨_, rfl, p, c, 4, rfl, L.d.src, by decide, by decide, fun m H1 m0 m4 S1 b1 => ⟨rfl, _, rfl, ite2 (fun _ => ?_) (fun _ => ?_)⟩⟩
  · have L1 := L.but b1 S1
    have cn := L1.d.cnt
    have cn' : cntAll [dS b, dP b, dO b, dR b] + 1 ≤ 51 := cn
    exact ⟨_, rfl, _, rfl, p, c, a, b, rfl, S1, L1.d.df, drawn_sm L1.d.drawn, by omega, fun r d H' S' b' hd hs hc => h _ d H' (L1.but b' S') ⟨hd, hs, by omega⟩⟩
  · exact ⟨_, rfl, h v d H1 (L.but b1 S1) ⟨(B.but b1).df, B.sm, B.cn⟩⟩
theorem u4_ok (B : Tl K w p c v d n H) (hc : D.ct (sl z p [y2, y3, y4, y5, y6, y7, y8, some v, y10, y11, y12, y13, y14]) H) (h : ∀ (r : Addr) (d0 d1 d2 d3 : PyData), v = .ref r → Tf d d0 d1 d2 d3 → D.nx (sl z p [y2, y3, y4, y5, y6, y7, y8, some v, y10, y11, y12, y13, y14]) H) :
    u4 K w D (sl z p [y2, y3, y4, y5, y6, y7, y8, some v, y10, y11, y12, y13, y14]) H := by
  unfold u4
  refine ⟨_, rfl, v, d, rfl, Dw.mono hide_ex _ _ (Dr.w _ _ B.df.dr), _, rfl, ?_⟩
  have fin : ∀ {r : Addr} {ws : List V} {ds : List PyData} {bb : Bool}, v = .ref r → SqB K bb H r ws → ws.length = ds.length → itemsD d = ds → (lstD d || tupD d) = true →
      tTest (tOp rNe (tCB (Evl.rLenS K) (tCons (tVar 9) tNil)) (tC (.int 4))) (sl z p [y2, y3, y4, y5, y6, y7, y8, some v, y10, y11, y12, y13, y14]) H fun b H1 => if b = true then tCont D (sl z p [y2, y3, y4, y5, y6, y7, y8, some v, y10, y11, y12, y13, y14]) H1 else tNext D (sl z p [y2, y3, y4, y5, y6, y7, y8, some v, y10, y11, y12, y13, y14]) H1 := by
    rintro r ws ds bb rfl hs hl hi ht
    refine ⟨_, rfl, r, ws, rfl, hs.lenS, rfl, _, rfl, ite2 (fun _ => hc) (fun zz => ?_)⟩
    have l4 : ws.length = 4 := by
      rcases Nat.decEq ws.length 4 with y | y
      · refine absurd ?_ zz
        rw [Bool.not_eq_true', decide_eq_false_iff_not]
        intro e
        injection e with e
        omega
      · exact y
    rw [l4] at hl
    match ds, hl with
    | [d0, d1, d2, d3], _ => exact h r d0 d1 d2 d3 rfl ⟨ht, hi⟩
  have D1 := Df.ex hide_ex B.df
  cases D1 with
  | @lst x0 ws es hm hl hds => exact iteF (fin (bb := true) rfl (SqL.of hl) hds.len rfl rfl)
  | @tup x0 ws es ht hds => exact iteF (fin (bb := false) rfl ht.sq hds.len rfl rfl)
  | _ => exact iteT (iteT hc)
theorem Tl.four (B : Tl K w p c (.ref r) d n H) (F : Tf d d0 d1 d2 d3) (l : n ≤ 800) : Four K w H r d0 d1 d2 d3 := four_df (Df.ex hide_ex B.df) F.it B.sm (Nat.le_trans B.cn l)
theorem Tl.shown (B : Tl K w p c v d n H) (l : n ≤ 100) : d.showable = true ∧ d.depth ≤ 150 ∧ d.shown.length ≤ sizeLine := by
  have h1 := depth_cnt d
  have h2 := shown_le d B.sm
  have h3 := B.cn
  have sz : sizeLine = 16777216 := sizeLine_eq
  exact ⟨sm_showable _ B.sm, by omega, by omega⟩
theorem u5_ok (L : Li K w T C p c O os odds H0 a b xs q t vs q' H) (B : Tl K w p c (.ref r) d 61 H) (F : Tf d d0 d1 d2 d3) (h : ∀ (l : Addr) (H' : Hp), Li K w T C p c O os odds H0 a b xs q t vs q' H' → Tl K w p c (.ref r) d 61 H' → PathV K H' l (bookR d0 d1 d2 d3) → D.nx (sl z p [y2, y3, y4, y5, y6, y7, y8, some (.ref r), some (.ref l), some (.str d.shown), y12, y13, y14]) H') :
    u5 K w D (sl z p [y2, y3, y4, y5, y6, y7, y8, some (.ref r), y10, y11, y12, y13, y14]) H := by
  unfold u5
  obtain ⟨⟨bb, ws, f1, f2, _⟩, sm, cn⟩ := B.four F (by decide)
  refine ⟨_, rfl, r, bb, ws, d0, d1, d2, d3, rfl, f1, f2, sm, cn, fun l H1 e1 hp => ?_⟩
  have B1 := B.ex e1
  obtain ⟨s1, s2, s3⟩ := B1.shown (by decide)
  exact ⟨_, rfl, .ref r, d, rfl, (Df.ex hide_ex B1.df).dr, s1, s2, s3, _, _, rfl, h l H1 (L.ex e1) B1 hp⟩
theorem u6_ok (L : Li K w T C p c O os odds H0 a b xs q t vs q' H) (B : Tl K w p c (.ref r) d 61 H) (F : Tf d d0 d1 d2 d3) (P : PathV K H l (bookR d0 d1 d2 d3))
    (hc : ∀ H', Li K w T C p c O os odds H0 a b xs q t vs q' H' → D.ct (sl z p [y2, y3, y4, y5, y6, y7, y8, some (.ref r), some (.ref l), y11, y12, y13, y14]) H')
    (h : ∀ (H' : Hp), Li K w T C p c O os odds H0 a b xs q t vs q' H' → Tl K w p c (.ref r) d 61 H' → PathV K H' l (bookR d0 d1 d2 d3) → D.nx (sl z p [y2, y3, y4, y5, y6, y7, y8, some (.ref r), some (.ref l), y11, y12, y13, y14]) H') :
    u6 K w D (sl z p [y2, y3, y4, y5, y6, y7, y8, some (.ref r), some (.ref l), y11, y12, y13, y14]) H := by
  unfold u6
  obtain ⟨ls, hl, he⟩ := P.emp
  refine ⟨_, rfl, Nat.zero_le _, fun n0 nn sn => ?_⟩
  have e1 := Ex.new (o := HO.lst []) nn
  refine ⟨l, n0, ls, rfl, rfl, SqL.of (e1 _ _ hl), SqL.of upd_same, _, rfl, ?_⟩
  rw [he]
  have L1 := L.ex e1
  have B1 := B.ex e1
  cases hr : bookR d0 d1 d2 d3 with
  | some path => exact iteF (iteF (h _ L1 B1 (by rw [← hr] at *; exact P.ex e1)))
  | none =>
    obtain ⟨b', R⟩ := right_of hr
    refine iteT ⟨_, rfl, r, b', rfl, (B1.four F (by decide)).r R, fun tt H2 e2 => ⟨tt, rfl, ?_⟩⟩
    cases tt with
    | true => exact iteF (h H2 (L1.ex e2) (B1.ex e2) (by rw [← hr] at *; exact (P.ex e1).ex e2))
    | false => exact iteT (hc H2 (L1.ex e2))
theorem u7_ok (L : Li K w T C p c O os odds H0 a b xs q t vs q' H) (B : Tl K w p c (.ref r) d 61 H) (F : Tf d d0 d1 d2 d3) (P : PathV K H l (bookR d0 d1 d2 d3))
    (h : ∀ (H' : Hp), Li K w T C p c O os odds H0 a b xs q t vs q' H' → Tl K w p c (.ref r) d 61 H' → PathV K H' l (bookR d0 d1 d2 d3) → D.nx (sl z p [y2, y3, y4, y5, y6, y7, y8, some (.ref r), some (.ref l), some (.str d.shown), y12, y13, y14]) H') :
    u7 K w D (sl z p [y2, y3, y4, y5, y6, y7, y8, some (.ref r), some (.ref l), some (.str d.shown), y12, y13, y14]) H := by
  unfold u7
  refine ⟨_, rfl, r, d0, d1, d2, d3, rfl, B.four F (by decide), fun l2 H1 e1 hp => ⟨_, rfl, ?_⟩⟩
  have P1 := P.ex e1
  have lay := path_lay (bookR d0 d1 d2 d3)
  refine ⟨_, _, hp.dp, P1.dp, lay, lay, _, rfl, ?_⟩
  rw [PySem.SeqAt.eqv_refl _ (SeqAt.canLay_of_shaped lay)]
  have B1 := B.ex e1
  obtain ⟨s1, s2, s3⟩ := B1.shown (by decide)
  refine iteF ⟨_, rfl, .ref r, d, rfl, (Df.ex hide_ex B1.df).dr, s1, s2, s3, _, rfl, rfl, _, rfl, ite2 (fun zz => ?_) (fun _ => h H1 (L.ex e1) B1 P1)⟩
  rw [decide_eq_true (rfl : V.str d.shown = V.str d.shown)] at zz
  cases zz
theorem Tl.parts (B : Tl K w p c (.ref r) d n H) (F : Tf d d0 d1 d2 d3) : ∃ (bb : Bool) (ws : List V), SqB K bb H r ws ∧ DfAll K w H ws [d0, d1, d2, d3] := by
  have D1 := Df.ex hide_ex B.df
  obtain ⟨ls, it⟩ := F
  cases D1 with
  | @lst x0 ws es hm hl hds =>
    have it' : es = [d0, d1, d2, d3] := it
    rw [it'] at hds
    exact ⟨true, ws, SqL.of hl, hds⟩
  | @tup x0 ws es ht hds =>
    have it' : es = [d0, d1, d2, d3] := it
    rw [it'] at hds
    exact ⟨false, ws, ht.sq, hds⟩
  | _ => cases ls
theorem u8_ok (L : Li K w T C p c O os odds H0 a b xs q t vs q' H) (B : Tl K w p c (.ref r) d 61 H) (F : Tf d d0 d1 d2 d3) (P : PathV K H l (bookR d0 d1 d2 d3))
    (h : ∀ (y12 : Option V) (H' : Hp), Li K w T C p c O os odds H0 a b xs q t vs q' H' → D.nx (sl z p [y2, y3, y4, some (.ref q), some (.ref t), y7, y8, some (.ref r), some (.ref l), y11, y12, y13, y14]) H') :
    u8 K w C CB D (sl z p [y2, y3, y4, some (.ref q), some (.ref t), y7, y8, some (.ref r), some (.ref l), y11, y12, y13, y14]) H := by
  unfold u8
  obtain ⟨ls, hl, he⟩ := P.emp
  refine ⟨_, rfl, Nat.zero_le _, fun n0 nn sn => ?_⟩
  have e1 := Ex.new (o := HO.lst []) nn
  refine ⟨l, n0, ls, rfl, rfl, SqL.of (e1 _ _ hl), SqL.of upd_same, _, rfl, ?_⟩
  rw [he]
  have L1 := L.ex e1
  have B1 := B.ex e1
  cases hr : bookR d0 d1 d2 d3 with
  | some path => exact iteF (h _ _ L1)
  | none =>
  refine iteT ?_
  obtain ⟨b', R⟩ := right_of hr
  obtain ⟨⟨bb, ws, f1, f2, f3⟩, sm, cn⟩ := B1.four F (by decide)
  have sm0 := right_sm (drawn_right L.d.drawn) (drawn_sm L.d.drawn)
  have sm1 := right_sm R sm
  generalize upd H n0 (.lst []) = H1 at L1 B1 f1 f2 f3
  obtain ⟨bb', ws', g1, g2⟩ := B1.parts F
  refine seq_to (fun σ H' => σ = sl z p [y2, y3, y4, some (.ref q), some (.ref t), y7, y8, some (.ref r), some (.ref l), y11, some (.bl (PyData.eqv (tpD b) (tpD b'))), y13, y14] ∧ Ex H1 H') (fun N hN => ?_) ?_
  · refine ⟨_, rfl, _, rfl, r, bb', ws', rfl, g1, tight_go (z := z) (p := p) (y2 := y2) (y3 := y3) (y4 := y4) (y5 := some (.ref q)) (y6 := some (.ref t)) (y7 := y7) (y8 := y8) (y9 := some (.ref r)) (y10 := some (.ref l)) (y11 := y11) (y12 := y12) (y13 := y13) (y14 := y14)
      (Q := fun y H2 => rEqD K (.ref t) y H2 fun x H3 => N (sl z p [y2, y3, y4, some (.ref q), some (.ref t), y7, y8, some (.ref r), some (.ref l), y11, some x, y13, y14]) H3) g1 g2 (right_no R) (Nat.le_of_ble_eq_true rfl) fun D0 us H2 nD e2 hD da => ?_⟩
    rw [right_tp R] at da
    have G2 := (L1.ex e2).tg
    exact ⟨tpD b, tpD b', .lst (SqL.of G2.own) (DfAll.dp (tp_noLs b) G2.dfs), .lst (SqL.of hD) (DfAll.dp (tp_noLs b') (DfAll.ex nol_ex da)), tp_lay sm0, tp_lay sm1, hN _ _ ⟨rfl, e2⟩⟩
  · rintro σ H2 ⟨rfl, e2⟩
    have L2 := L1.ex e2
    have B2 := B1.ex e2
    refine ⟨_, rfl, r, d0, d1, d2, d3, rfl, B2.four F (by decide), fun b2 _ R2 H3 q3 K3 e3 => ⟨_, rfl, q3, r, b2, rfl, K3, ((B2.ex e3).four F (by decide)).r R2, fun H4 e4 => ⟨true, rfl, iteF ?_⟩⟩, fun path hb => by rw [hr] at hb; cases hb⟩
    have L4 := (L2.ex e3).ex e4
    have B4 := (B2.ex e3).ex e4
    refine ⟨_, rfl, _, rfl, r, d0, d1, d2, d3, rfl, B4.four F (by decide), fun b5 _ R5 H5 q5 K5 e5 => ?_, fun path hb => by rw [hr] at hb; cases hb⟩
    obtain rfl := right_uniq R R5
    have L5 := L4.ex e5
    have K5' := K5
    have bk := L5.bk
    obtain ⟨dx, s, pr, po, re, wd, ct, hq, _⟩ := id bk
    obtain ⟨dx5, s5, pr5, po5, re5, wd5, ct5, hq5, _⟩ := id K5
    refine ⟨q, dx, _, rfl, hq, .inl ⟨q5, dx5, _, rfl, hq5⟩, q, b, .ref q5, rfl, bk, .inl ⟨q5, b', rfl, K5, bk_lay sm0, bk_lay sm1, fun H6 e6 => ⟨_, rfl, _, rfl, rfl, _, rfl, ite2 (fun zz => ?_) (fun _ => h _ H6 (L5.ex e6))⟩⟩⟩
    rw [both_eq] at zz
    simp at zz
end
end L2.Vf.K01
/-! A lap of the law, behind the looks. -/
namespace L2.Vf.K01
open PySem PySem.Spec PyProof.Rows
open Evl (Ex Ev EvT EvL EvA)
open NdefX LamX
section
variable (K : PySem.W.Frag) (w : World) (C CB : Addr) (T : List (Addr × Str))
def lookT : TS := tSeq (u1 K w) (tSeq (u2 K w) (tSeq (u3 K w) (tSeq (u4 K w) (tSeq (u5 K w) (tSeq (u6 K w) (tSeq (u7 K w) (u8 K w C CB)))))))
def t6 : TS := tFor (iRng1 (tCons (tC (.int 5)) tNil)) (gName 8) (lookT K w C CB)
def t7 : TS := tFor (iList K (tVar 4)) (gName 13) (tDrop (tBM0 K "list" rClear (tVar 13)))
def t8 : TS := tIfS (tOr (tTest (tOp (fun x y H Q => (∃ b dy gs, y = V.ref b ∧ H b = some (HO.ins C dy gs)) ∧ rOwnEq K w C (spEq K w C) E0 not x y H Q) (tVar 5) (tVar 7)))
  (tNot fun σ H Q => tCall (spToldRight K w C) [] E0 (tCons (tVar 5) (tCons (tVar 6) tNil)) σ H fun x H' => ∃ k, TruV K x H' k ∧ Q k H')) (tRet (tC (.bl false))) tNext
def t9 : TS := tIfS (tTest (tOp (rNeE K) (tLc (iList K (tLstN (tCons (tC .non) (tCons (tVar 6) (tCons (tC (.int 0)) tNil))))) (gName 14) (tTest (tOp (rOwnEq K w C (spEq K w C) E0 id) (tVar 5) (tVar 14))) (tC (.int 1)) [14]) (tLstN tNil))) (tRet (tC (.bl false))) tNext
def lapT : TS := tSeq (t1 K w) (tSeq (t2 K w C CB) (tSeq (t3 K w C T) (tSeq (t4 K) (tSeq (t5 K w C CB) (tSeq (t6 K w C CB) (tSeq (t7 K) (tSeq (t8 K w C) (t9 K w C))))))))
end
/-- while parts are cleared -/
structure Cl (K : PySem.W.Frag) (w : World) (T : List (Addr × Str)) (C p c O : Addr) (os : List V) (odds : List PyData) (H0 : Hp) (a : Addr) (b : Bk) (xs : List Addr) (q t : Addr) (vs : List V) (q' : Addr) (H : Hp) : Prop where
  l0 : Lc K w T p c O os odds H0
  e : ExtN (hide [p, c] H0) (hide [p, c] H)
  src : Src2 H p c
  tabs : Tabs T H
  nw : ∀ x ∈ xs, H0 x = none ∧ x ≠ a
  own : H a = some (.lst (xs.map V.ref))
  ls : ∀ x ∈ xs, x ∉ [p, c] ∧ ∃ ys, H x = some (.lst ys)
  bk : BookAt K w H C q b
  tg : Tg K w H t b vs
  tx : ∀ x ∈ xs, x ≠ t
  ot : BookAt K w H C q' b
  drawn : Drawn b
/-- what is no book -/
structure Kit (K : PySem.W.Frag) (C : Addr) : Prop where
  n : PySem.W.kitOne K (.type "NoneType") (.ref C) = some false
  l : PySem.W.kitOne K (.type "list") (.ref C) = some false
  i : PySem.W.kitOne K (.type "int") (.ref C) = some false
  sn : PySem.W.subIn K (.type "NoneType") (.ref C) = some false
  sl : PySem.W.subIn K (.type "list") (.ref C) = some false
  si : PySem.W.subIn K (.type "int") (.ref C) = some false
section
variable {K : PySem.W.Frag} {w : World} {T : List (Addr × Str)} {C CB p c O a q t q' z r l : Addr} {os vs : List V} {odds : List PyData} {H H' H0 : Hp} {b : Bk} {xs : List Addr} {D : Ends} {y2 y3 y4 y5 y6 y7 y8 y9 y10 y11 y12 y13 y14 : Option V}
theorem Cl.of (L : Li K w T C p c O os odds H0 a b xs q t vs q' H) : Cl K w T C p c O os odds H0 a b xs q t vs q' H :=
  ⟨L.d.l0, L.d.e, L.d.src, L.d.tabs, L.d.nw, hide_ex _ _ L.d.own, L.d.lst, L.bk, L.tg, L.tx, L.ot, L.d.drawn⟩
theorem Cl.clear (L : Cl K w T C p c O os odds H0 a b xs q t vs q' H) {x : Addr} (hx : x ∈ xs) : Cl K w T C p c O os odds H0 a b xs q t vs q' (upd H x (.lst [])) := by
  obtain ⟨xS, ys, hy⟩ := L.ls x hx
  obtain ⟨x0, xa⟩ := L.nw x hx
  have u : UpL H (upd H x (.lst [])) := fun d o hb n1 _ => by
    rw [upd_ne (fun y => by rw [y, hy] at hb; injection hb with hb; exact n1 _ hb.symm)]
    exact hb
  refine ⟨L.l0, fun d o hd n => ?_, Src2.off L.src xS, Tabs.up L.tabs u, L.nw, by rw [upd_ne xa.symm]; exact L.own, fun x' hx' => ?_, L.bk.up u, L.tg.to u (by rw [upd_ne (L.tx x hx).symm]; exact L.tg.own), L.tx, L.ot.up u, L.drawn⟩
  · have ne : d ≠ x := fun y => by
      have := hide_ex _ _ hd
      rw [y, x0] at this
      cases this
    have g := L.e d o hd n
    unfold hide at g ⊢
    by_cases m : d ∈ [p, c]
    · rw [if_pos m] at g
      cases g
    · rw [if_neg m] at g ⊢
      rw [upd_ne ne]
      exact g
  · obtain ⟨h1, ys', h2⟩ := L.ls x' hx'
    refine ⟨h1, ?_⟩
    rcases Nat.decEq x' x with y | y
    · exact ⟨ys', by rw [upd_ne y]; exact h2⟩
    · exact ⟨[], by rw [y]; exact upd_same⟩
theorem look_ok (L : Li K w T C p c O os odds H0 a b xs q t vs q' H) (Oo : Od os odds)
    (h : ∀ (y9 y10 y11 y12 : Option V) (H' : Hp), Li K w T C p c O os odds H0 a b xs q t vs q' H' → D.nx (sl z p [some (.ref O), y3, some (.ref a), some (.ref q), some (.ref t), some (.ref q'), y8, y9, y10, y11, y12, y13, y14]) H' ∧ D.ct (sl z p [some (.ref O), y3, some (.ref a), some (.ref q), some (.ref t), some (.ref q'), y8, y9, y10, y11, y12, y13, y14]) H') :
    lookT K w C CB D (sl z p [some (.ref O), y3, some (.ref a), some (.ref q), some (.ref t), some (.ref q'), y8, y9, y10, y11, y12, y13, y14]) H := by
  unfold lookT
  refine u1_ok L Oo fun v d H1 L1 B1 => ?_
  refine u2_ok L1 Oo B1 fun v d H2 L2 B2 => ?_
  refine u3_ok L2 B2 fun v d H3 L3 B3 => ?_
  refine u4_ok B3 (h _ _ _ _ H3 L3).2 fun r d0 d1 d2 d3 e F => ?_
  subst e
  refine u5_ok L3 B3 F fun l H5 L5 B5 P5 => ?_
  refine u6_ok L5 B5 F P5 (fun H6 L6 => (h _ _ _ _ H6 L6).2) fun H6 L6 B6 P6 => ?_
  refine u7_ok L6 B6 F P6 fun H7 L7 B7 P7 => ?_
  exact u8_ok L7 B7 F P7 fun y12 H8 L8 => (h _ _ _ _ H8 L8).1
theorem t6_ok (L : Li K w T C p c O os odds H0 a b xs q t vs q' H) (Oo : Od os odds)
    (h : ∀ (y8 y9 y10 y11 y12 : Option V) (H' : Hp), Li K w T C p c O os odds H0 a b xs q t vs q' H' → D.nx (sl z p [some (.ref O), y3, some (.ref a), some (.ref q), some (.ref t), some (.ref q'), y8, y9, y10, y11, y12, y13, y14]) H') :
    t6 K w C CB D (sl z p [some (.ref O), y3, some (.ref a), some (.ref q), some (.ref t), some (.ref q'), y8, y9, y10, y11, y12, y13, y14]) H := by
  unfold t6
  refine ⟨_, rfl, by omega, by omega, for_range (lo := 0) (n := 5) (fun i σ H' => (∃ y8 y9 y10 y11 y12 : Option V, σ = sl z p [some (.ref O), y3, some (.ref a), some (.ref q), some (.ref t), some (.ref q'), y8, y9, y10, y11, y12, y13, y14]) ∧ Li K w T C p c O os odds H0 a b xs q t vs q' H') ⟨⟨_, _, _, _, _, rfl⟩, L⟩ ?_ ?_⟩
  · rintro i σ H2 hi ⟨⟨y8, y9, y10, y11, y12, rfl⟩, L2⟩
    exact look_ok L2 Oo fun y9 y10 y11 y12 H3 L3 => ⟨⟨⟨_, _, _, _, _, rfl⟩, L3⟩, ⟨_, _, _, _, _, rfl⟩, L3⟩
  · rintro σ H2 ⟨⟨y8, y9, y10, y11, y12, rfl⟩, L2⟩
    exact h _ _ _ _ _ H2 L2
theorem t7_ok (L : Cl K w T C p c O os odds H0 a b xs q t vs q' H) 
    (h : ∀ (y13 : Option V) (H' : Hp), Cl K w T C p c O os odds H0 a b xs q t vs q' H' → D.nx (sl z p [y2, y3, some (.ref a), y5, y6, y7, y8, y9, y10, y11, y12, y13, y14]) H') :
    t7 K D (sl z p [y2, y3, some (.ref a), y5, y6, y7, y8, y9, y10, y11, y12, y13, y14]) H := by
  unfold t7
  refine ⟨_, rfl, a, rfl, ⟨_, SqL.of L.own⟩, for_list (K := K) (a := a) (xs := xs.map V.ref) (fun i σ H' => (∃ y13 : Option V, σ = sl z p [y2, y3, some (.ref a), y5, y6, y7, y8, y9, y10, y11, y12, y13, y14]) ∧ Cl K w T C p c O os odds H0 a b xs q t vs q' H') ⟨⟨_, rfl⟩, L⟩ (fun i σ H' _ h => SqL.of h.2.own) ?_ ?_⟩
  · rintro i x σ H2 hi ⟨⟨y13, rfl⟩, L2⟩
    rw [List.getElem?_map] at hi
    obtain ⟨r, hr, rfl⟩ := Option.map_eq_some_iff.mp hi
    have hx := List.mem_of_getElem? hr
    obtain ⟨xS, ys, hy⟩ := L2.ls r hx
    exact ⟨_, rfl, .inl ⟨rfl, _, SqL.of hy⟩, r, ys, rfl, rfl, hy, ⟨_, rfl⟩, L2.clear hx⟩
  · rintro σ H2 ⟨⟨y13, rfl⟩, L2⟩
    exact h _ H2 L2
theorem Cl.ex (L : Cl K w T C p c O os odds H0 a b xs q t vs q' H) (e : Ex H H') : Cl K w T C p c O os odds H0 a b xs q t vs q' H' :=
  ⟨L.l0, L.e.trans (but_xn (But.of e)), L.src.ex e, Tabs.up L.tabs (UpL.of e), L.nw, e _ _ L.own, fun x hx => by
    obtain ⟨h1, ys, h2⟩ := L.ls x hx
    exact ⟨h1, ys, e _ _ h2⟩, L.bk.up (UpL.of e), L.tg.to (UpL.of e) (e _ _ L.tg.own), L.tx, L.ot.up (UpL.of e), L.drawn⟩
theorem t8_ok (L : Cl K w T C p c O os odds H0 a b xs q t vs q' H) 
    (h : ∀ (H' : Hp), Cl K w T C p c O os odds H0 a b xs q t vs q' H' → D.nx (sl z p [y2, y3, y4, some (.ref q), some (.ref t), some (.ref q'), y8, y9, y10, y11, y12, y13, y14]) H') :
    t8 K w C D (sl z p [y2, y3, y4, some (.ref q), some (.ref t), some (.ref q'), y8, y9, y10, y11, y12, y13, y14]) H := by
  unfold t8
  obtain ⟨dx, s, pr, po, re, wd, ct, hq, _⟩ := id L.bk
  obtain ⟨dx5, s5, pr5, po5, re5, wd5, ct5, hq5, _⟩ := id L.ot
  have lay := bk_lay (right_sm (drawn_right L.drawn) (drawn_sm L.drawn))
  refine ⟨_, rfl, _, rfl, ⟨q', dx5, _, rfl, hq5⟩, q, dx, _, rfl, hq, .inl ⟨q', dx5, _, rfl, hq5⟩, q, b, .ref q', rfl, L.bk, .inl ⟨q', b, rfl, L.ot, lay, lay, fun H1 e1 => ⟨_, rfl, _, rfl, ?_⟩⟩⟩
  rw [PySem.SeqAt.eqv_refl _ (SeqAt.canLay_of_shaped lay)]
  have L1 := L.ex e1
  refine iteF ⟨_, rfl, _, rfl, q, t, b, rfl, L1.bk, L1.tg.fourR L1.drawn, fun H2 e2 => ⟨true, rfl, iteF (h H2 (L1.ex e2))⟩⟩
theorem not_book (L : Cl K w T C p c O os odds H0 a b xs q t vs q' H) (Kt : Kit K C) {i : Nat} {x : V} (hi : [V.non, V.ref t, V.int 0][i]? = some x) : ∃ d, Dw K w H x d ∧ PySem.W.kitOne K (.type (tyD d)) (.ref C) = some false ∧ PySem.W.subIn K (.type (tyD d)) (.ref C) = some false := by
  match i, hi with
  | 0, hi =>
    obtain rfl := Option.some.inj hi
    exact ⟨.none, .non, Kt.n, Kt.sn⟩
  | 1, hi =>
    obtain rfl := Option.some.inj hi
    exact ⟨.list _, .lst trivial (SqL.of L.tg.own) L.tg.dfs.dw, Kt.l, Kt.sl⟩
  | 2, hi =>
    obtain rfl := Option.some.inj hi
    exact ⟨.int 0, .int 0, Kt.i, Kt.si⟩
  | i + 3, hi => cases hi
theorem t9_ok (L : Cl K w T C p c O os odds H0 a b xs q t vs q' H) (Kt : Kit K C)
    (h : ∀ (H' : Hp), Cl K w T C p c O os odds H0 a b xs q t vs q' H' → D.nx (sl z p [y2, y3, y4, some (.ref q), some (.ref t), y7, y8, y9, y10, y11, y12, y13, y14]) H') :
    t9 K w C D (sl z p [y2, y3, y4, some (.ref q), some (.ref t), y7, y8, y9, y10, y11, y12, y13, y14]) H := by
  unfold t9
  have sz : sizeLine = 16777216 := sizeLine_eq
  refine ⟨_, rfl, (by show (3 : Nat) ≤ sizeLine; omega), fun A nA sA => ⟨A, rfl, ⟨_, SqL.of upd_same⟩, fun D0 nD => ?_⟩⟩
  have L1 := L.ex (Ex.new (o := HO.lst [V.non, V.ref t, V.int 0]) nA)
  have hA : (upd H A (.lst [V.non, V.ref t, V.int 0])) A = some (.lst [V.non, V.ref t, V.int 0]) := upd_same
  generalize upd H A (.lst [V.non, V.ref t, V.int 0]) = H1 at L1 hA nD ⊢
  refine lc_list (K := K) (a := A) (xs := [V.non, V.ref t, V.int 0]) (fun i H' => Ex H1 H' ∧ H' D0 = some (.lst [])) ⟨Ex.new nD, upd_same⟩ (fun i H' _ h => SqL.of (h.1 _ _ hA)) ?_ ?_
  · rintro i x H2 hi ⟨e, hD⟩
    have L2 := L1.ex e
    obtain ⟨d, hd, hk, hs⟩ := not_book L2 Kt hi
    obtain ⟨dx, s, pr, po, re, wd, ct, hq, _⟩ := id L2.bk
    exact ⟨rfl, _, rfl, _, rfl, q, dx, _, rfl, hq, .inr ⟨d, hd, hs⟩, q, b, x, rfl, L2.bk, .inr ⟨d, hd, hk, false, rfl, false, rfl, iteF ⟨e, hD⟩⟩⟩
  · rintro H2 ⟨e, hD⟩
    refine ⟨Nat.zero_le _, fun n0 nn sn => ?_⟩
    have e2 := Ex.new (o := HO.lst []) nn
    exact ⟨D0, n0, [], rfl, rfl, SqL.of (e2 _ _ hD), SqL.of upd_same, false, rfl, iteF (h _ ((L1.ex e).ex e2))⟩
theorem lap_ok (L : Lc K w T p c O os odds H) (Oo : Od os odds) (Kt : Kit K C) (h : ∀ (y4 y5 y6 y7 y8 y9 y10 y11 y12 y13 y14 : Option V) (H' : Hp), Lc K w T p c O os odds H' → D.nx (sl z p [some (.ref O), y3, y4, y5, y6, y7, y8, y9, y10, y11, y12, y13, y14]) H') :
    lapT K w C CB T D (sl z p [some (.ref O), y3, y4, y5, y6, y7, y8, y9, y10, y11, y12, y13, y14]) H := by
  unfold lapT
  refine t1_ok L fun a b xs H1 L1 => ?_
  refine t2_ok L1 fun q H2 L2 B2 => ?_
  refine t3_ok L2 B2 fun H3 L3 B3 => ?_
  refine t4_ok L3 B3 fun t vs H4 L4 B4 G4 tS tx => ?_
  refine t5_ok L4 B4 G4 tS tx fun q' H5 L5 => ?_
  refine t6_ok L5 Oo fun y8 y9 y10 y11 y12 H6 L6 => ?_
  refine t7_ok (Cl.of L6) fun y13 H7 L7 => ?_
  refine t8_ok L7 fun H8 L8 => ?_
  exact t9_ok L8 Kt fun H9 L9 => h _ _ _ _ _ _ _ _ _ _ _ H9 (L9.l0.xn L9.e L9.src L9.tabs)
end
end L2.Vf.K01
/-! The law. -/
namespace L2.Vf.K01
open PySem PySem.Spec PyProof.Rows
open Evl (Ex Ev EvT EvL EvA)
open NdefX LamX
abbrev s_law : Stmt := top 48
def spLaw (K : PySem.W.Frag) (T : List (Addr × Str)) : Sp := fun vs H Q _ => ∃ (a : Addr) (ns : List Int), vs = [.ref a] ∧ SqL K H a (ns.map V.int) ∧ ns.length ≤ 63 ∧ Tabs T H ∧ ∀ H', Q (.bl true) H'
theorem hide_up {Z : List Addr} {H : Hp} {r : Addr} {o : HO} (n : r ∉ Z) : hide Z (upd H r o) = upd (hide Z H) r o := by
  funext b
  unfold hide
  by_cases m : b ∈ Z
  · rw [if_pos m, upd_ne (fun y => n (by rw [← y]; exact m)), if_pos m]
  · rw [if_neg m]
    by_cases y : b = r
    · rw [y, upd_same, upd_same]
    · rw [upd_ne y, upd_ne y, if_neg m]
theorem newD {K : PySem.W.Frag} {w : World} {Z : List Addr} {H : Hp} {r : Addr} (S : Kn Z H) (n : H r = none) (m : (r == sysModules) = false) : Df K w (hide Z (upd H r (mxo r w []))) (.ref r) (.dict []) := by
  rw [hide_up (S.off n)]
  exact .dct (Mx.new m)
/-- the plain odd things -/
def odd1 : List PyData := [.none, .bool true, .int 0, .int 1, .int 2, .int 3, .int (-1), .str "", .str "zz", .str "A", .str "1a", .str "why", .str "gone", .str "self", .str "ended", .str "closed", .str "c", .str "f", .str "main",
  .str "lost", .str "red", .str "a", .str "x1", .str "a\n", .str "aB", .str "a b", .str "abcdefghijklm"]
def vs1 : List V := [.non, .bl true, .int 0, .int 1, .int 2, .int 3, .int (-1), .str "", .str "zz", .str "A", .str "1a", .str "why", .str "gone", .str "self", .str "ended", .str "closed", .str "c", .str "f", .str "main",
  .str "lost", .str "red", .str "a", .str "x1", .str "a\n", .str "aB", .str "a b", .str "abcdefghijklm"]
def odd2 : List PyData := [.tuple [], .list [], .dict [], .tuple [.str "c", .tuple [.str "red"]], .tuple [.str "f", .int 1], .list [.str "c", .tuple [.str "red"]], .tuple [.str "c", .list [.str "red"]]]
theorem odd1_df {K : PySem.W.Frag} {w : World} {H : Hp} : DfAll K w H vs1 odd1 := by
  unfold vs1 odd1
  repeat first
    | exact .nil
    | refine .cons .non ?_
    | refine .cons (.bl _) ?_
    | refine .cons (.int _) ?_
    | refine .cons (.str _) ?_
theorem odds_ok : OddOk (odd1 ++ odd2) := fun d hd => by
  have h : ∀ d ∈ odd1 ++ odd2, (smD d && decide (cnt d ≤ 5)) = true := List.all_eq_true.mp (by decide +kernel)
  have := h d hd
  rw [Bool.and_eq_true, decide_eq_true_eq] at this
  exact this
section
variable {P : Program} {w : World} {K : PySem.W.Frag} {mg : Str → Option Value} {base : Heap} {f C CB CU : Addr} {fd : FuncData} {T : List (Addr × Str)}
abbrev n_law : List Str := ["_law_script", "_law_source_here", "_law_odd", "_law_turn", "_law_parts", "_law_book_here", "_law_tight", "_law_other", "_law_look", "_law_told", "_law_due", "_law_seen", "_law_is_same", "_law_some_here", "_law_value"]
theorem sc_law : FnScope n_law ["_law_script"] (defScope s_law) := ⟨rfl, rfl, rfl, by decide +kernel, rfl, by decide +kernel, by decide +kernel⟩
theorem ok_law {fe f0 f9 : Addr} {fde fd0 fd9 : FuncData} (F : Fun K "law" "law" s_law f fd) (Kt : Kit K C) (m_range : mg "range" = none) (m_repr : mg "repr" = none) (m_len : mg "len" = none) (m_tuple : mg "tuple" = none)
    (GM_eq : FnOk P w K mg base CX0 2 fe fde ["self", "other"] (spEq K w C)) (hs_eq : PySem.W.findIn K (.ref C) "__eq__" = some (some (.ref fe))) (hn_eq : neIn K C fe = true) (hf_eq : PySem.W.isFn K (.ref fe) = true) (bm_eq : Binds K fde ["self", "other"] [])
    (G__law_book : FnOk P w K mg base (L2.CX P w) 8 f0 fd0 ["_law_parts"] (spLawBook K w C CB)) (m__law_book : mg "_law_book" = some (.ref f0)) (k__law_book : PySem.W.keepIn K (.ref f0) = true) (b__law_book : Binds K fd0 ["_law_parts"] [])
    (G__law_looks_right : FnG P w K mg base CX0 6 f9 fd9 ["_law_source_here", "_law_book_here", "_law_parts"] (spLooks K w C T)) (m__law_looks_right : mg "_law_looks_right" = some (.ref f9)) (k__law_looks_right : PySem.W.keepIn K (.ref f9) = true) (b__law_looks_right : Binds K fd9 ["_law_source_here", "_law_book_here", "_law_parts"] [])
    (h1 : Has P w K mg base 1 "_law_source" ["_law_script"] (spSource2 K)) (h2 : Has P w K mg base 1 "_law_pick" ["_law_source_here", "_law_many"] spPick2) (h3 : Has P w K mg base 3 "_law_book_parts" ["_law_source_here"] (spBookParts K w))
    (h4 : Has P w K mg base 4 "_law_told_right" ["_law_book_here", "_law_parts"] (spToldRight K w C)) (h5 : Has P w K mg base 9 "_law_bent" ["_law_source_here", "_law_value", "_law_deep", "_law_odd"] (spBentLess K w 6)) (h6 : Has P w K mg base 2 "_law_turned" ["_law_source_here", "_law_parts"] (spTurned K w))
    (h7 : Has P w K mg base 1 "_law_is_listing" ["_law_value"] (spIsListing K w)) (h8 : Has P w K mg base 4 "_law_wrong_book" ["_law_parts"] (spWrongBook K w)) (h9 : Has P w K mg base 1 "_law_is_small" ["_law_parts"] (spIsSmall K w))
    (h10 : Has P w K mg base 9 "_law_refused" ["_law_parts"] (spLawRefused K w)) :
    FnG P w K mg base CX0 12 f fd ["_law_script"] (spLaw K T) := by
  obtain ⟨f1, fd1, G__law_source, m__law_source, k__law_source, b__law_source⟩ := h1
  obtain ⟨f2, fd2, G__law_pick, m__law_pick, k__law_pick, b__law_pick⟩ := h2
  obtain ⟨f3, fd3, G__law_book_parts, m__law_book_parts, k__law_book_parts, b__law_book_parts⟩ := h3
  obtain ⟨f4, fd4, G__law_told_right, m__law_told_right, k__law_told_right, b__law_told_right⟩ := h4
  obtain ⟨f5, fd5, G__law_bent, m__law_bent, k__law_bent, b__law_bent⟩ := h5
  obtain ⟨f6, fd6, G__law_turned, m__law_turned, k__law_turned, b__law_turned⟩ := h6
  obtain ⟨f7, fd7, G__law_is_listing, m__law_is_listing, k__law_is_listing, b__law_is_listing⟩ := h7
  obtain ⟨f8, fd8, G__law_wrong_book, m__law_wrong_book, k__law_wrong_book, b__law_wrong_book⟩ := h8
  obtain ⟨f10, fd10, G__law_is_small, m__law_is_small, k__law_is_small, b__law_is_small⟩ := h9
  obtain ⟨f11, fd11, G__law_refused, m__law_refused, k__law_refused, b__law_refused⟩ := h10
  refine okG F sc_law (fun vs H Q E h => ?_) (fun cdv A outer s H vs Q E hgu hr h => ?_)
  · obtain ⟨a, ns, rfl, _⟩ := h
    rfl
  obtain ⟨z, ns, rfl, hS, hl, hT, q⟩ := h
  refine ⟨_, (pss_cons (ps_set (i := 1) sc_law.nd rfl (.inl rfl) (pe_call G__law_source (hr.mono (by omega)) (by rfl) m__law_source k__law_source b__law_source .nil pass0 (pa_cons (pv 0) pa_nil)))
  (pss_cons (ps_set (i := 2) sc_law.nd rfl (.inl rfl) (pe_lstN (pa_cons pe_non (pa_cons pe_bl (pa_cons pe_int (pa_cons pe_int (pa_cons pe_int (pa_cons pe_int (pa_cons (pe_un un_neg pe_int) (pa_cons pe_str (pa_cons pe_str (pa_cons pe_str (pa_cons pe_str (pa_cons pe_str (pa_cons pe_str (pa_cons pe_str (pa_cons pe_str (pa_cons pe_str (pa_cons pe_str (pa_cons pe_str (pa_cons pe_str pa_nil)))))))))))))))))))))
  (pss_cons (ps_set (i := 2) sc_law.nd rfl (.inl rfl) (pe_op op_cat (pv 2) (pe_lstN (pa_cons pe_str (pa_cons pe_str (pa_cons pe_str (pa_cons pe_str (pa_cons pe_str (pa_cons pe_str (pa_cons pe_str (pa_cons pe_str pa_nil)))))))))))
  (pss_cons (ps_set (i := 2) sc_law.nd rfl (.inl rfl) (pe_op op_cat (pv 2) (pe_lstN (pa_cons (pe_tupF pa_nil) (pa_cons (pe_lstN pa_nil) (pa_cons (pe_mnew (w := w)) (pa_cons (pe_tupF (pa_cons pe_str (pa_cons (pe_tupF (pa_cons pe_str pa_nil)) pa_nil))) (pa_cons (pe_tupF (pa_cons pe_str (pa_cons pe_int pa_nil))) (pa_cons (pe_lstN (pa_cons pe_str (pa_cons (pe_tupF (pa_cons pe_str pa_nil)) pa_nil))) (pa_cons (pe_tupF (pa_cons pe_str (pa_cons (pe_lstN (pa_cons pe_str pa_nil)) pa_nil))) pa_nil))))))))))
  (pss_cons (ps_for PassesOwn.never rfl (pi_range1 rfl m_range (pa_cons pe_int pa_nil)) (pg_name (i := 3) sc_law.nd rfl (.inl rfl))
  (pss_cons (ps_set (i := 4) sc_law.nd rfl (.inl rfl) (pe_call G__law_book_parts (hr.mono (by omega)) (by rfl) m__law_book_parts k__law_book_parts b__law_book_parts .nil pass0 (pa_cons (pv 1) pa_nil)))
  (pss_cons (ps_set (i := 5) sc_law.nd rfl (.inr rfl) (pe_call G__law_book (hr.mono (by omega)) (by rfl) m__law_book k__law_book b__law_book .nil passL (pa_cons (pv 4) pa_nil)))
  (pss_cons (ps_if (PW.pt (pw_or (pt_not (pt_truth (pe_call G__law_told_right (hr.mono (by omega)) (by rfl) m__law_told_right k__law_told_right b__law_told_right .nil pass0 (pa_cons (pv 5) (pa_cons (pv 4) pa_nil))) (by intro _; rfl))) (pw_or1 (pt_not (pt_truth (pe_callG G__law_looks_right hgu (hr.mono (by omega)) (by rfl) m__law_looks_right k__law_looks_right b__law_looks_right pass0 (pa_cons (pv 1) (pa_cons (pv 5) (pa_cons (pv 4) pa_nil)))) (by intro _; rfl))))))
  (pss_one (ps_ret pe_bl))
  pss_nil)
  (pss_cons (ps_setLc (i := 6) (own := [("_law_some_here", 13)]) (g := gName 13) (tt := _) rfl sc_law.nd rfl rfl (sw_true rfl rfl rfl (by decide +kernel)) (pi_list (pv 4)) (blkOk_by (N := n_law) (sc := defScope s_law) (by decide +kernel)) (fun _ _ _ _ _ => (pg_name (i := 13) sc_law.nd rfl (.inl rfl))) (fun _ _ _ _ _ => pts_nil) (fun _ _ _ _ _ => (pe_callTy (call_tupF (K := K)) (by rfl) m_tuple (by decide +kernel) (pa_cons (pv 13) pa_nil))))
  (pss_cons (ps_set (i := 7) sc_law.nd rfl (.inl rfl) (pe_call G__law_book (hr.mono (by omega)) (by rfl) m__law_book k__law_book b__law_book .nil passL (pa_cons (pv 6) pa_nil)))
  (pss_cons (ps_for PassesOwn.never rfl (pi_range1 rfl m_range (pa_cons pe_int pa_nil)) (pg_name (i := 8) sc_law.nd rfl (.inl rfl))
  (pss_cons (ps_set (i := 9) sc_law.nd rfl (.inl rfl) (pe_call G__law_bent (hr.mono (by omega)) (by rfl) m__law_bent k__law_bent b__law_bent .nil pass0 (pa_cons (pv 1) (pa_cons (pv 4) (pa_cons pe_int (pa_cons (pv 2) pa_nil))))))
  (pss_cons (ps_set (i := 9) sc_law.nd rfl (.inl rfl) (pe_ifExp (pt_cmpR op_eq (pe_call G__law_pick (hr.mono (by omega)) (by rfl) m__law_pick k__law_pick b__law_pick .nil pass0 (pa_cons (pv 1) (pa_cons pe_int pa_nil))) pe_int (nomark _)) (pe_call G__law_bent (hr.mono (by omega)) (by rfl) m__law_bent k__law_bent b__law_bent .nil pass0 (pa_cons (pv 1) (pa_cons (pv 9) (pa_cons pe_int (pa_cons (pv 2) pa_nil))))) (pv 9)))
  (pss_cons (ps_set (i := 9) sc_law.nd rfl (.inl rfl) (pe_ifExp (pt_cmpR op_eq (pe_call G__law_pick (hr.mono (by omega)) (by rfl) m__law_pick k__law_pick b__law_pick .nil pass0 (pa_cons (pv 1) (pa_cons pe_int pa_nil))) pe_int (nomark _)) (pe_call G__law_turned (hr.mono (by omega)) (by rfl) m__law_turned k__law_turned b__law_turned .nil pass0 (pa_cons (pv 1) (pa_cons (pv 4) pa_nil))) (pv 9)))
  (pss_cons (ps_if (PW.pt (pw_or (pt_not (pt_truth (pe_call G__law_is_listing (hr.mono (by omega)) (by rfl) m__law_is_listing k__law_is_listing b__law_is_listing .nil pass0 (pa_cons (pv 9) pa_nil)) (by intro _; rfl))) (pw_or1 (pt_cmpR op_ne (pe_callB (call_lenK (K := K)) (by rfl) m_len PySem.boot_len (pa_cons (pv 9) pa_nil)) pe_int (nomark _)))))
  (pss_one ps_continue)
  pss_nil)
  (pss_cons (ps_par (i := 10) (j := 11) (by rfl) sc_law.nd rfl rfl (by decide) rfl rfl (pa_cons (pe_call G__law_wrong_book (hr.mono (by omega)) (by rfl) m__law_wrong_book k__law_wrong_book b__law_wrong_book .nil pass0 (pa_cons (pv 9) pa_nil)) (pa_cons (pe_callB (call_reprA (K := K) (w := w) hgu (units190 hr)) (by rfl) m_repr (by decide +kernel) (pa_cons (pv 9) pa_nil)) pa_nil)) (by rfl))
  (pss_cons (ps_if (PW.pt (pw_and (pt_cmpR (op_eqE (K := K) (units0' hr)) (pv 10) (pe_lstN pa_nil) (nomark _)) (pw_and1 (pt_not (pt_truth (pe_call G__law_is_small (hr.mono (by omega)) (by rfl) m__law_is_small k__law_is_small b__law_is_small .nil pass0 (pa_cons (pv 9) pa_nil)) (by intro _; rfl))))))
  (pss_one ps_continue)
  pss_nil)
  (pss_cons (ps_if (PW.pt (pw_or (pt_cmpR (op_neDK (K := K) hr.units) (pe_call G__law_refused (hr.mono (by omega)) (by rfl) m__law_refused k__law_refused b__law_refused .nil pass0 (pa_cons (pv 9) pa_nil)) (pv 10) (nomark _)) (pw_or1 (pt_cmpR op_ne (pe_callB (call_reprA (K := K) (w := w) hgu (units190 hr)) (by rfl) m_repr (by decide +kernel) (pa_cons (pv 9) pa_nil)) (pv 11) (nomark _)))))
  (pss_one (ps_ret pe_bl))
  pss_nil)
  (pss_one (ps_if (pt_cmpR (op_eqE (K := K) (units0' hr)) (pv 10) (pe_lstN pa_nil) (nomark _))
  (pss_cons (ps_set (i := 12) sc_law.nd rfl (.inl rfl) (pe_cmpR (op_eqDK (K := K) hr.units) (pv 6) (pe_lc (own := [("_law_some_here", 13)]) (g := gName 13) (tt := _) rfl sc_law.nd (pi_sqB (pv 9)) (blkOk_by (N := n_law) (sc := defScope s_law) (by decide +kernel)) (fun _ _ _ _ _ => (pg_name (i := 13) sc_law.nd rfl (.inl rfl))) (fun _ _ _ _ _ => pts_nil) (fun _ _ _ _ _ => (pe_callTy (call_tupF (K := K)) (by rfl) m_tuple (by decide +kernel) (pa_cons (pv 13) pa_nil)))) (nomark _)))
  (pss_one (ps_if (PW.pt (pw_or (pt_not (pt_truth (pe_call G__law_told_right (hr.mono (by omega)) (by rfl) m__law_told_right k__law_told_right b__law_told_right .nil pass0 (pa_cons (pe_call G__law_book (hr.mono (by omega)) (by rfl) m__law_book k__law_book b__law_book .nil passL (pa_cons (pv 9) pa_nil)) (pa_cons (pv 9) pa_nil))) (by intro _; rfl))) (pw_or1 (pt_cmpR op_ne (pe_cmpR (op_ownEqK (K := K) (w := w) GM_eq hs_eq hf_eq bm_eq pass0 (hr.mono (by omega))) (pv 5) (pe_call G__law_book (hr.mono (by omega)) (by rfl) m__law_book k__law_book b__law_book .nil passL (pa_cons (pv 9) pa_nil)) (nomark _)) (pv 12) (nomark _)))))
  (pss_one (ps_ret pe_bl))
  pss_nil)))
  pss_nil))))))))))
  (pss_cons (ps_for PassesOwn.never rfl (pi_list (pv 4)) (pg_name (i := 13) sc_law.nd rfl (.inl rfl))
  (pss_one (ps_expr (pe_bm0 PySem.F.plainAttrs_list PySem.F.slot_list_clear PySem.F.type_list_clear mt_clear (pv 13)))))
  (pss_cons (ps_if (PW.pt (pw_or (pt_cmpR (op_ownNeK (K := K) (w := w) GM_eq hn_eq hf_eq bm_eq pass0 (hr.mono (by omega))) (pv 5) (pv 7) (nomark _)) (pw_or1 (pt_not (pt_truth (pe_call G__law_told_right (hr.mono (by omega)) (by rfl) m__law_told_right k__law_told_right b__law_told_right .nil pass0 (pa_cons (pv 5) (pa_cons (pv 6) pa_nil))) (by intro _; rfl))))))
  (pss_one (ps_ret pe_bl))
  pss_nil)
  (pss_one (ps_if (pt_cmpR (op_neE (K := K) (units0' hr)) (pe_lc (own := [("_law_value", 14)]) (g := gName 14) (tt := _) rfl sc_law.nd (pi_list (pe_lstN (pa_cons pe_non (pa_cons (pv 6) (pa_cons pe_int pa_nil))))) (blkOk_by (N := n_law) (sc := defScope s_law) (by decide +kernel)) (fun _ _ _ _ _ => (pg_name (i := 14) sc_law.nd rfl (.inl rfl))) (fun _ _ _ _ _ => pts_one (pt_cmpR (op_ownEqK (K := K) (w := w) GM_eq hs_eq hf_eq bm_eq pass0 (hr.mono (by omega))) (pv 5) (pv 14) (nomark _))) (fun _ _ _ _ _ => pe_int)) (pe_lstN pa_nil) (nomark _))
  (pss_one (ps_ret pe_bl))
  pss_nil)))))))))))
  (pss_one (ps_ret pe_bl))))))), ?_⟩
  have sz : sizeLine = 16777216 := sizeLine_eq
  refine ⟨_, rfl, z, ns, rfl, hS, hl, fun p c H1 np nc e1 S1 => ?_⟩
  have T1 : Tabs T H1 := Tabs.ext hT e1
  dsimp only [gName]
  refine seq_to (fun σ H' => ∃ o1, σ = sl z p [some (.ref o1), none, none, none, none, none, none, none, none, none, none, none, none] ∧ Ex H1 H' ∧ H' o1 = some (.lst (vs1.take 19))) (fun N hN => ?_) ?_
  · exact ⟨_, rfl, (by show (19 : Nat) ≤ sizeLine; omega), fun o1 n1 m1 => hN _ _ ⟨o1, rfl, Ex.new n1, upd_same⟩⟩
  rintro σ H2 ⟨o1, rfl, e2, h2⟩
  refine seq_to (fun σ H' => ∃ o1, σ = sl z p [some (.ref o1), none, none, none, none, none, none, none, none, none, none, none, none] ∧ Ex H1 H' ∧ H' o1 = some (.lst vs1)) (fun N hN => ?_) ?_
  · refine ⟨_, rfl, (by show (8 : Nat) ≤ sizeLine; omega), fun o2 n2 m2 => ?_⟩
    have x2 := Ex.new (o := HO.lst (vs1.drop 19)) n2
    refine ⟨o1, o2, vs1.take 19, vs1.drop 19, rfl, rfl, x2 _ _ h2, upd_same, (by show 19 + 8 ≤ sizeLine; omega), fun o3 n3 => ?_⟩
    exact hN _ _ ⟨o3, rfl, e2.trans (x2.trans (Ex.new n3)), upd_same⟩
  rintro σ H3 ⟨o3, rfl, e3, h3⟩
  have S3 := S1.ex e3
  have T3 : Tabs T H3 := Tabs.up T1 (UpL.of e3)
  refine seq_to (fun σ H' => ∃ (O : Addr) (os : List V), σ = sl z p [some (.ref O), none, none, none, none, none, none, none, none, none, none, none, none] ∧ Lc K w T p c O os (odd1 ++ odd2) H' ∧ Od os (odd1 ++ odd2)) (fun N hN => ?_) ?_
  · refine ⟨_, rfl, (by show (0 : Nat) ≤ sizeLine; omega), fun r0 i0 v0 n0 => ⟨(by show (0 : Nat) ≤ sizeLine; omega), fun r1 n1 m1 r2 n2 m2 => ?_⟩⟩
    have k0 := S3.kn
    have d0 := newTS (K := K) (w := w) k0 n0 v0 .nil
    have x0 := Ex.new (o := HO.frz (tupO i0) (.tup [])) n0
    have k1 := k0.ex x0
    have d1 := newL (K := K) (w := w) k1 n1 m1 .nil
    have x1 := Ex.new (o := HO.lst []) n1
    have k2 := k1.ex x1
    have x2 := Ex.new (o := mxo r2 w []) n2
    have d2 := newD (K := K) (w := w) k2 n2 m2
    have k3 := k2.ex x2
    refine ⟨(by show (1 : Nat) ≤ sizeLine; omega), fun r3 i3 v3 n3 => ⟨(by show (2 : Nat) ≤ sizeLine; omega), fun r4 i4 v4 n4 => ⟨(by show (2 : Nat) ≤ sizeLine; omega), fun r5 i5 v5 n5 => ?_⟩⟩⟩
    have d3 := newTS (K := K) (w := w) k3 n3 v3 (.cons (.str "red") .nil)
    have x3 := Ex.new (o := HO.frz (tupO i3) (.tup [V.str "red"])) n3
    have k4 := k3.ex x3
    have d4 := newTS (K := K) (w := w) k4 n4 v4 (.cons (.str "c") (.cons d3 .nil))
    have x4 := Ex.new (o := HO.frz (tupO i4) (.tup [V.str "c", V.ref r3])) n4
    have k5 := k4.ex x4
    have d5 := newTS (K := K) (w := w) k5 n5 v5 (.cons (.str "f") (.cons (.int 1) .nil))
    have x5 := Ex.new (o := HO.frz (tupO i5) (.tup [V.str "f", V.int 1])) n5
    have k6 := k5.ex x5
    refine ⟨(by show (1 : Nat) ≤ sizeLine; omega), fun r6 i6 v6 n6 => ⟨(by show (2 : Nat) ≤ sizeLine; omega), fun r7 n7 m7 => ?_⟩⟩
    have d6 := newTS (K := K) (w := w) k6 n6 v6 (.cons (.str "red") .nil)
    have x6 := Ex.new (o := HO.frz (tupO i6) (.tup [V.str "red"])) n6
    have k7 := k6.ex x6
    have d7 := newL (K := K) (w := w) k7 n7 m7 (.cons (.str "c") (.cons d6 .nil))
    have x7 := Ex.new (o := HO.lst [V.str "c", V.ref r6]) n7
    have k8 := k7.ex x7
    refine ⟨(by show (1 : Nat) ≤ sizeLine; omega), fun r8 n8 m8 => ⟨(by show (2 : Nat) ≤ sizeLine; omega), fun r9 i9 v9 n9 => ?_⟩⟩
    have d8 := newL (K := K) (w := w) k8 n8 m8 (.cons (.str "red") .nil)
    have x8 := Ex.new (o := HO.lst [V.str "red"]) n8
    have k9 := k8.ex x8
    have d9 := newTS (K := K) (w := w) k9 n9 v9 (.cons (.str "c") (.cons d8 .nil))
    have x9 := Ex.new (o := HO.frz (tupO i9) (.tup [V.str "c", V.ref r8])) n9
    refine ⟨(by show (7 : Nat) ≤ sizeLine; omega), fun r10 n10 m10 => ?_⟩
    have x10 := Ex.new (o := HO.lst [V.ref r0, V.ref r1, V.ref r2, V.ref r4, V.ref r5, V.ref r7, V.ref r9]) n10
    have x39 := ((((((((x0.trans x1).trans x2).trans x3).trans x4).trans x5).trans x6).trans x7).trans x8).trans x9
    refine ⟨o3, r10, vs1, [V.ref r0, V.ref r1, V.ref r2, V.ref r4, V.ref r5, V.ref r7, V.ref r9], rfl, rfl, (x39.trans x10) _ _ h3, upd_same, (by show 27 + 7 ≤ sizeLine; omega), fun O nO => ?_⟩
    have xO := Ex.new (o := HO.lst (vs1 ++ [V.ref r0, V.ref r1, V.ref r2, V.ref r4, V.ref r5, V.ref r7, V.ref r9])) nO
    have xA := (x39.trans x10).trans xO
    have S4 := S3.ex xA
    have e8 := (x9.trans x10).trans xO
    have e7 := x8.trans e8
    have e6 := x7.trans e7
    have e5 := x6.trans e6
    have e4 := x5.trans e5
    have e3' := x4.trans e4
    have e2' := x3.trans e3'
    have e1' := x2.trans e2'
    have e0' := x1.trans e1'
    refine hN _ _ ⟨O, vs1 ++ [V.ref r0, V.ref r1, V.ref r2, V.ref r4, V.ref r5, V.ref r7, V.ref r9], rfl, ⟨S4, ?_, ?_, Tabs.up T3 (UpL.of xA)⟩, odds_ok, (by show (2 : Nat) ≤ 34; decide), (by show (34 : Nat) ≤ 100; decide)⟩
    · exact SqL.of (hide_new (k9.ex (x9.trans x10)) nO)
    · exact DfAll.app odd1_df (.cons (d0.ex (exHide e0')) (.cons (d1.ex (exHide e1')) (.cons (d2.ex (exHide e2')) (.cons (d4.ex (exHide e4)) (.cons (d5.ex (exHide e5)) (.cons (d7.ex (exHide e7)) (.cons (d9.ex (exHide (x10.trans xO))) .nil)))))))
  rintro σ H4 ⟨O, os, rfl, L4, Oo⟩
  refine seq_to (fun σ H' => ∃ y3 y4 y5 y6 y7 y8 y9 y10 y11 y12 y13 y14 : Option V, σ = sl z p [some (.ref O), y3, y4, y5, y6, y7, y8, y9, y10, y11, y12, y13, y14] ∧ Lc K w T p c O os (odd1 ++ odd2) H') (fun N hN => ?_) ?_
  · refine ⟨_, rfl, by omega, by omega, for_range (lo := 0) (n := 4) (fun i σ H' => ∃ y3 y4 y5 y6 y7 y8 y9 y10 y11 y12 y13 y14 : Option V, σ = sl z p [some (.ref O), y3, y4, y5, y6, y7, y8, y9, y10, y11, y12, y13, y14] ∧ Lc K w T p c O os (odd1 ++ odd2) H') ⟨_, _, _, _, _, _, _, _, _, _, _, _, rfl, L4⟩ ?_ ?_⟩
    · rintro i σ H5 hi ⟨y3, y4, y5, y6, y7, y8, y9, y10, y11, y12, y13, y14, rfl, L5⟩
      exact lap_ok L5 Oo Kt fun y4 y5 y6 y7 y8 y9 y10 y11 y12 y13 y14 H6 L6 => ⟨_, _, _, _, _, _, _, _, _, _, _, _, rfl, L6⟩
    · rintro σ H5 ⟨y3, y4, y5, y6, y7, y8, y9, y10, y11, y12, y13, y14, rfl, L5⟩
      exact hN _ _ ⟨_, _, _, _, _, _, _, _, _, _, _, _, rfl, L5⟩
  · rintro σ H5 ⟨y3, y4, y5, y6, y7, y8, y9, y10, y11, y12, y13, y14, rfl, L5⟩
    exact q H5
end
end L2.Vf.K01
/-! Own exceptions, read off the written part. -/
namespace L2.Vf
open PySem PySem.Spec PyProof.Rows
/-- an own class ahead of tl, made by newId, as it is written out -/
def xclB (K : PySem.W.Frag) (C : Addr) (tl : List Value) (newId : String) : Bool :=
  match K.lookup C with
  | some ob => (match ob.cls, ob.data, ob.slots.toList with
      | .type t, .cls cd, [_, _, _, _, some (.builtin n), _] => t == "type" && n == newId && cd.hasDict && !cd.hasDel && (match cd.mro with
          | .ref c :: bm => c == C && VfX.refsT tl bm
          | _ => false)
      | _, _, _ => false)
  | none => false
theorem xcl_cls {K : PySem.W.Frag} {C : Addr} {tl : List Value} {newId : String} (q : xclB K C tl newId = true) :
    ∃ nm q N bs bm sn sub ab col dd k0 k1 k2 k3 k5, K.lookup C = some (excClassObj nm q C N bs bm true sn sub ab col dd k0 k1 k2 k3 k5 newId) ∧ VfX.refsT tl bm = true := by
  unfold xclB at q
  split at q
  · rename_i ob ho
    obtain ⟨oc, dd, da, sl⟩ := ob
    dsimp only at q
    split at q
    · rename_i t cd k0 k1 k2 k3 n k5 h3
      simp only [Bool.and_eq_true, beq_iff_eq, Bool.not_eq_true'] at q
      obtain ⟨⟨⟨⟨rfl, rfl⟩, hd⟩, hdel⟩, hm⟩ := q
      split at hm
      · rename_i c bm hmro
        simp only [Bool.and_eq_true, beq_iff_eq] at hm
        obtain ⟨rfl, hr⟩ := hm
        obtain ⟨nm, bs, mro, ns, qn, hdct, sn, sub, ab, col, del⟩ := cd
        dsimp only at hd hdel hmro
        subst hd hdel hmro
        have hsl : sl = #[k0, k1, k2, k3, some (.builtin n), k5] := by
          obtain ⟨l⟩ := sl
          simp only at h3
          rw [h3]
        subst hsl
        exact ⟨nm, qn, ns, bs, bm, sn, sub, ab, col, dd, k0, k1, k2, k3, k5, ho, hr⟩
      · cases hm
    · cases q
  · cases q
/-- what is asked of an own exception with an __init__ -/
theorem xcl_of {K : PySem.W.Frag} {C : Addr} {tl : List Value} {newId : String} (h1 : xclB K C tl newId = true) (h2 : PySem.W.findIn K (.ref C) "__setattr__" = some (some (.builtin "object.__setattr__"))) (h3 : PySem.W.keepIn K (.ref C) = true) : Xcl K C tl newId := ⟨xcl_cls h1, h2, h3⟩
theorem refs_ve : ∀ l : List Value, VfX.refsT veL l = true → PySem.HandSPX.refsVE l = true := by
  intro l
  induction l with
  | nil =>
    intro e
    rcases VfX.refsT_cases veL [] e with ⟨c, r, q, _⟩ | q
    · cases q
    · cases q
  | cons a r ih =>
    intro e
    rcases VfX.refsT_cases veL (a :: r) e with ⟨c, r', q, h⟩ | q
    · obtain ⟨rfl, rfl⟩ := List.cons.inj q
      exact ih h
    · rw [q]
      decide +kernel
theorem oex_of {K : PySem.W.Frag} {C : Addr} (h1 : xclB K C veL "ValueError.__new__" = true) (h2 : PySem.W.findIn K (.ref C) "__setattr__" = some (some (.builtin "object.__setattr__"))) (h3 : PySem.W.subIn K (.ref C) (.type "BaseException") = some true)
    (h4 : PySem.W.typeIn K (.ref C) = some (.type "type")) (h5 : PySem.W.keepIn K (.ref C) = true) : OexC K C := by
  obtain ⟨nm, q, N, bs, bm, sn, sub, ab, col, dd, k0, k1, k2, k3, k5, e, r⟩ := xcl_cls h1
  exact ⟨⟨nm, q, N, bs, bm, sn, sub, ab, col, dd, k0, k1, k2, k3, k5, e, refs_ve _ r⟩, h2, h3, h4, h5⟩
end L2.Vf
namespace L2.Vf.K01
open PySem PySem.Spec PyProof.Rows
open Evl (Ex Ev EvT EvL EvA)
open NdefX LamX
abbrev q_L_looks_right : Str := (envOfC "_law_looks_right" (defScope s__law_looks_right) 0 0 .none).qual ++ "<lambda>"
theorem all_mk {P : Program} {w : World} {K : PySem.W.Frag} {h : Heap} {mg : Str → Option Value} {fa cc_L_looks_right t_L_looks_right f_is_word f_is_name f_is_number f_require f_is_list f_is_row f_is_key f_check_new_name f_check_sorts f_check_sort_words f_check_primitives f_check_plain_names f_L_source f_L_pick f_L_of f_L_some f_L_pool f_L_is_listing f_L_is_row f_L_is_word f_L_is_name f_L_is_count f_L_bent f_L_book_parts f_L_book f_L_wrong_member f_L_wrong_book f_L_refused f_L_missing f_L_told_right f_L_looks_right f_L_turned f_L_is_small f_Law f_Binit f_Beq f_Bparts f_Bsorts f_Bprims f_Bports f_Breas f_Bwords f_Bcount f_BBinit f_Winit f_Uinit C CB CW CU CA CN aK : Addr} {tk_LETTERS tk_DIGITS tk_LONGEST tk_k0 tk_k1 tk_k2 tk_k3 tk_k4 : Tok} {od_K : Option Addr} {n_K : Nat} {sl_K : Array (Option Value)}
    {od_is_word an_is_word : Option Addr} {sl_is_word : Array (Option Value)} {oc_is_word kV_is_word dc_is_word pm_is_word ct_is_word cd_is_word : Value}
    {od_is_name an_is_name : Option Addr} {sl_is_name : Array (Option Value)} {oc_is_name kV_is_name dc_is_name pm_is_name ct_is_name cd_is_name : Value}
    {od_is_number an_is_number : Option Addr} {sl_is_number : Array (Option Value)} {oc_is_number kV_is_number dc_is_number pm_is_number ct_is_number cd_is_number : Value}
    {od_require an_require : Option Addr} {sl_require : Array (Option Value)} {oc_require kV_require dc_require pm_require ct_require cd_require : Value}
    {od_is_list an_is_list : Option Addr} {sl_is_list : Array (Option Value)} {oc_is_list kV_is_list dc_is_list pm_is_list ct_is_list cd_is_list : Value}
    {od_is_row an_is_row : Option Addr} {sl_is_row : Array (Option Value)} {oc_is_row kV_is_row dc_is_row pm_is_row ct_is_row cd_is_row : Value}
    {od_is_key an_is_key : Option Addr} {sl_is_key : Array (Option Value)} {oc_is_key kV_is_key dc_is_key pm_is_key ct_is_key cd_is_key : Value}
    {od_check_new_name an_check_new_name : Option Addr} {sl_check_new_name : Array (Option Value)} {oc_check_new_name kV_check_new_name dc_check_new_name pm_check_new_name ct_check_new_name cd_check_new_name : Value}
    {od_check_sorts an_check_sorts : Option Addr} {sl_check_sorts : Array (Option Value)} {oc_check_sorts kV_check_sorts dc_check_sorts pm_check_sorts ct_check_sorts cd_check_sorts : Value}
    {od_check_sort_words an_check_sort_words : Option Addr} {sl_check_sort_words : Array (Option Value)} {oc_check_sort_words kV_check_sort_words dc_check_sort_words pm_check_sort_words ct_check_sort_words cd_check_sort_words : Value}
    {od_check_primitives an_check_primitives : Option Addr} {sl_check_primitives : Array (Option Value)} {oc_check_primitives kV_check_primitives dc_check_primitives pm_check_primitives ct_check_primitives cd_check_primitives : Value}
    {od_check_plain_names an_check_plain_names : Option Addr} {sl_check_plain_names : Array (Option Value)} {oc_check_plain_names kV_check_plain_names dc_check_plain_names pm_check_plain_names ct_check_plain_names cd_check_plain_names : Value}
    {od_L_source an_L_source : Option Addr} {sl_L_source : Array (Option Value)} {oc_L_source kV_L_source dc_L_source pm_L_source ct_L_source cd_L_source : Value}
    {od_L_pick an_L_pick : Option Addr} {sl_L_pick : Array (Option Value)} {oc_L_pick kV_L_pick dc_L_pick pm_L_pick ct_L_pick cd_L_pick : Value}
    {od_L_of an_L_of : Option Addr} {sl_L_of : Array (Option Value)} {oc_L_of kV_L_of dc_L_of pm_L_of ct_L_of cd_L_of : Value}
    {od_L_some an_L_some : Option Addr} {sl_L_some : Array (Option Value)} {oc_L_some kV_L_some dc_L_some pm_L_some ct_L_some cd_L_some : Value}
    {od_L_pool an_L_pool : Option Addr} {sl_L_pool : Array (Option Value)} {oc_L_pool kV_L_pool dc_L_pool pm_L_pool ct_L_pool cd_L_pool : Value}
    {od_L_is_listing an_L_is_listing : Option Addr} {sl_L_is_listing : Array (Option Value)} {oc_L_is_listing kV_L_is_listing dc_L_is_listing pm_L_is_listing ct_L_is_listing cd_L_is_listing : Value}
    {od_L_is_row an_L_is_row : Option Addr} {sl_L_is_row : Array (Option Value)} {oc_L_is_row kV_L_is_row dc_L_is_row pm_L_is_row ct_L_is_row cd_L_is_row : Value}
    {od_L_is_word an_L_is_word : Option Addr} {sl_L_is_word : Array (Option Value)} {oc_L_is_word kV_L_is_word dc_L_is_word pm_L_is_word ct_L_is_word cd_L_is_word : Value}
    {od_L_is_name an_L_is_name : Option Addr} {sl_L_is_name : Array (Option Value)} {oc_L_is_name kV_L_is_name dc_L_is_name pm_L_is_name ct_L_is_name cd_L_is_name : Value}
    {od_L_is_count an_L_is_count : Option Addr} {sl_L_is_count : Array (Option Value)} {oc_L_is_count kV_L_is_count dc_L_is_count pm_L_is_count ct_L_is_count cd_L_is_count : Value}
    {od_L_bent an_L_bent : Option Addr} {sl_L_bent : Array (Option Value)} {oc_L_bent kV_L_bent dc_L_bent pm_L_bent ct_L_bent cd_L_bent : Value}
    {od_L_book_parts an_L_book_parts : Option Addr} {sl_L_book_parts : Array (Option Value)} {oc_L_book_parts kV_L_book_parts dc_L_book_parts pm_L_book_parts ct_L_book_parts cd_L_book_parts : Value}
    {od_L_book an_L_book : Option Addr} {sl_L_book : Array (Option Value)} {oc_L_book kV_L_book dc_L_book pm_L_book ct_L_book cd_L_book : Value}
    {od_L_wrong_member an_L_wrong_member : Option Addr} {sl_L_wrong_member : Array (Option Value)} {oc_L_wrong_member kV_L_wrong_member dc_L_wrong_member pm_L_wrong_member ct_L_wrong_member cd_L_wrong_member : Value}
    {od_L_wrong_book an_L_wrong_book : Option Addr} {sl_L_wrong_book : Array (Option Value)} {oc_L_wrong_book kV_L_wrong_book dc_L_wrong_book pm_L_wrong_book ct_L_wrong_book cd_L_wrong_book : Value}
    {od_L_refused an_L_refused : Option Addr} {sl_L_refused : Array (Option Value)} {oc_L_refused kV_L_refused dc_L_refused pm_L_refused ct_L_refused cd_L_refused : Value}
    {od_L_missing an_L_missing : Option Addr} {sl_L_missing : Array (Option Value)} {oc_L_missing kV_L_missing dc_L_missing pm_L_missing ct_L_missing cd_L_missing : Value}
    {od_L_told_right an_L_told_right : Option Addr} {sl_L_told_right : Array (Option Value)} {oc_L_told_right kV_L_told_right dc_L_told_right pm_L_told_right ct_L_told_right cd_L_told_right : Value}
    {od_L_looks_right an_L_looks_right : Option Addr} {sl_L_looks_right : Array (Option Value)} {oc_L_looks_right kV_L_looks_right dc_L_looks_right pm_L_looks_right ct_L_looks_right : Value}
    {od_L_turned an_L_turned : Option Addr} {sl_L_turned : Array (Option Value)} {oc_L_turned kV_L_turned dc_L_turned pm_L_turned ct_L_turned cd_L_turned : Value}
    {od_L_is_small an_L_is_small : Option Addr} {sl_L_is_small : Array (Option Value)} {oc_L_is_small kV_L_is_small dc_L_is_small pm_L_is_small ct_L_is_small cd_L_is_small : Value}
    {od_Law an_Law : Option Addr} {sl_Law : Array (Option Value)} {oc_Law kV_Law dc_Law pm_Law ct_Law cd_Law : Value}
    {od_Binit an_Binit : Option Addr} {sl_Binit : Array (Option Value)} {oc_Binit kV_Binit dc_Binit pm_Binit ct_Binit cd_Binit : Value}
    {od_Beq an_Beq : Option Addr} {sl_Beq : Array (Option Value)} {oc_Beq kV_Beq dc_Beq pm_Beq ct_Beq cd_Beq : Value}
    {od_Bparts an_Bparts : Option Addr} {sl_Bparts : Array (Option Value)} {oc_Bparts kV_Bparts dc_Bparts pm_Bparts ct_Bparts cd_Bparts : Value}
    {od_Bsorts an_Bsorts : Option Addr} {sl_Bsorts : Array (Option Value)} {oc_Bsorts kV_Bsorts dc_Bsorts pm_Bsorts ct_Bsorts cd_Bsorts : Value}
    {od_Bprims an_Bprims : Option Addr} {sl_Bprims : Array (Option Value)} {oc_Bprims kV_Bprims dc_Bprims pm_Bprims ct_Bprims cd_Bprims : Value}
    {od_Bports an_Bports : Option Addr} {sl_Bports : Array (Option Value)} {oc_Bports kV_Bports dc_Bports pm_Bports ct_Bports cd_Bports : Value}
    {od_Breas an_Breas : Option Addr} {sl_Breas : Array (Option Value)} {oc_Breas kV_Breas dc_Breas pm_Breas ct_Breas cd_Breas : Value}
    {od_Bwords an_Bwords : Option Addr} {sl_Bwords : Array (Option Value)} {oc_Bwords kV_Bwords dc_Bwords pm_Bwords ct_Bwords cd_Bwords : Value}
    {od_Bcount an_Bcount : Option Addr} {sl_Bcount : Array (Option Value)} {oc_Bcount kV_Bcount dc_Bcount pm_Bcount ct_Bcount cd_Bcount : Value}
    {od_BBinit an_BBinit : Option Addr} {sl_BBinit : Array (Option Value)} {oc_BBinit kV_BBinit dc_BBinit pm_BBinit ct_BBinit cd_BBinit : Value}
    {od_Winit an_Winit : Option Addr} {sl_Winit : Array (Option Value)} {oc_Winit kV_Winit dc_Winit pm_Winit ct_Winit cd_Winit : Value}
    {od_Uinit an_Uinit : Option Addr} {sl_Uinit : Array (Option Value)} {oc_Uinit kV_Uinit dc_Uinit pm_Uinit ct_Uinit cd_Uinit : Value} (X : K.In h) (G : h.Ns mainGlobals mg) (hfa : mg "law" = some (.ref fa))
    (a_is_word : PySem.W.nsIn K mainGlobals "is_word" = some (some (.ref f_is_word)))
    (l_is_word : K.lookup f_is_word = some ⟨oc_is_word, od_is_word, .func (PySem.W.fnOf "is_word" "is_word" (defArgs s_is_word) (defBody s_is_word) (defScope s_is_word) .none kV_is_word dc_is_word pm_is_word an_is_word cd_is_word ct_is_word), sl_is_word⟩)
    (c_is_word : PySem.W.codeIn K cd_is_word "is_word" = true)
    (k_is_word : PySem.W.keepIn K (.ref f_is_word) = true)
    (a_is_name : PySem.W.nsIn K mainGlobals "is_name" = some (some (.ref f_is_name)))
    (l_is_name : K.lookup f_is_name = some ⟨oc_is_name, od_is_name, .func (PySem.W.fnOf "is_name" "is_name" (defArgs s_is_name) (defBody s_is_name) (defScope s_is_name) .none kV_is_name dc_is_name pm_is_name an_is_name cd_is_name ct_is_name), sl_is_name⟩)
    (c_is_name : PySem.W.codeIn K cd_is_name "is_name" = true)
    (k_is_name : PySem.W.keepIn K (.ref f_is_name) = true)
    (a_is_number : PySem.W.nsIn K mainGlobals "is_number" = some (some (.ref f_is_number)))
    (l_is_number : K.lookup f_is_number = some ⟨oc_is_number, od_is_number, .func (PySem.W.fnOf "is_number" "is_number" (defArgs s_is_number) (defBody s_is_number) (defScope s_is_number) .none kV_is_number dc_is_number pm_is_number an_is_number cd_is_number ct_is_number), sl_is_number⟩)
    (c_is_number : PySem.W.codeIn K cd_is_number "is_number" = true)
    (k_is_number : PySem.W.keepIn K (.ref f_is_number) = true)
    (a_require : PySem.W.nsIn K mainGlobals "require" = some (some (.ref f_require)))
    (l_require : K.lookup f_require = some ⟨oc_require, od_require, .func (PySem.W.fnOf "require" "require" (defArgs s_require) (defBody s_require) (defScope s_require) .none kV_require dc_require pm_require an_require cd_require ct_require), sl_require⟩)
    (c_require : PySem.W.codeIn K cd_require "require" = true)
    (k_require : PySem.W.keepIn K (.ref f_require) = true)
    (a_is_list : PySem.W.nsIn K mainGlobals "is_list" = some (some (.ref f_is_list)))
    (l_is_list : K.lookup f_is_list = some ⟨oc_is_list, od_is_list, .func (PySem.W.fnOf "is_list" "is_list" (defArgs s_is_list) (defBody s_is_list) (defScope s_is_list) .none kV_is_list dc_is_list pm_is_list an_is_list cd_is_list ct_is_list), sl_is_list⟩)
    (c_is_list : PySem.W.codeIn K cd_is_list "is_list" = true)
    (k_is_list : PySem.W.keepIn K (.ref f_is_list) = true)
    (a_is_row : PySem.W.nsIn K mainGlobals "is_row" = some (some (.ref f_is_row)))
    (l_is_row : K.lookup f_is_row = some ⟨oc_is_row, od_is_row, .func (PySem.W.fnOf "is_row" "is_row" (defArgs s_is_row) (defBody s_is_row) (defScope s_is_row) .none kV_is_row dc_is_row pm_is_row an_is_row cd_is_row ct_is_row), sl_is_row⟩)
    (c_is_row : PySem.W.codeIn K cd_is_row "is_row" = true)
    (k_is_row : PySem.W.keepIn K (.ref f_is_row) = true)
    (a_is_key : PySem.W.nsIn K mainGlobals "is_key" = some (some (.ref f_is_key)))
    (l_is_key : K.lookup f_is_key = some ⟨oc_is_key, od_is_key, .func (PySem.W.fnOf "is_key" "is_key" (defArgs s_is_key) (defBody s_is_key) (defScope s_is_key) .none kV_is_key dc_is_key pm_is_key an_is_key cd_is_key ct_is_key), sl_is_key⟩)
    (c_is_key : PySem.W.codeIn K cd_is_key "is_key" = true)
    (k_is_key : PySem.W.keepIn K (.ref f_is_key) = true)
    (a_check_new_name : PySem.W.nsIn K mainGlobals "check_new_name" = some (some (.ref f_check_new_name)))
    (l_check_new_name : K.lookup f_check_new_name = some ⟨oc_check_new_name, od_check_new_name, .func (PySem.W.fnOf "check_new_name" "check_new_name" (defArgs s_check_new_name) (defBody s_check_new_name) (defScope s_check_new_name) .none kV_check_new_name dc_check_new_name pm_check_new_name an_check_new_name cd_check_new_name ct_check_new_name), sl_check_new_name⟩)
    (c_check_new_name : PySem.W.codeIn K cd_check_new_name "check_new_name" = true)
    (k_check_new_name : PySem.W.keepIn K (.ref f_check_new_name) = true)
    (a_check_sorts : PySem.W.nsIn K mainGlobals "check_sorts" = some (some (.ref f_check_sorts)))
    (l_check_sorts : K.lookup f_check_sorts = some ⟨oc_check_sorts, od_check_sorts, .func (PySem.W.fnOf "check_sorts" "check_sorts" (defArgs s_check_sorts) (defBody s_check_sorts) (defScope s_check_sorts) .none kV_check_sorts dc_check_sorts pm_check_sorts an_check_sorts cd_check_sorts ct_check_sorts), sl_check_sorts⟩)
    (c_check_sorts : PySem.W.codeIn K cd_check_sorts "check_sorts" = true)
    (k_check_sorts : PySem.W.keepIn K (.ref f_check_sorts) = true)
    (a_check_sort_words : PySem.W.nsIn K mainGlobals "check_sort_words" = some (some (.ref f_check_sort_words)))
    (l_check_sort_words : K.lookup f_check_sort_words = some ⟨oc_check_sort_words, od_check_sort_words, .func (PySem.W.fnOf "check_sort_words" "check_sort_words" (defArgs s_check_sort_words) (defBody s_check_sort_words) (defScope s_check_sort_words) .none kV_check_sort_words dc_check_sort_words pm_check_sort_words an_check_sort_words cd_check_sort_words ct_check_sort_words), sl_check_sort_words⟩)
    (c_check_sort_words : PySem.W.codeIn K cd_check_sort_words "check_sort_words" = true)
    (k_check_sort_words : PySem.W.keepIn K (.ref f_check_sort_words) = true)
    (a_check_primitives : PySem.W.nsIn K mainGlobals "check_primitives" = some (some (.ref f_check_primitives)))
    (l_check_primitives : K.lookup f_check_primitives = some ⟨oc_check_primitives, od_check_primitives, .func (PySem.W.fnOf "check_primitives" "check_primitives" (defArgs s_check_primitives) (defBody s_check_primitives) (defScope s_check_primitives) .none kV_check_primitives dc_check_primitives pm_check_primitives an_check_primitives cd_check_primitives ct_check_primitives), sl_check_primitives⟩)
    (c_check_primitives : PySem.W.codeIn K cd_check_primitives "check_primitives" = true)
    (k_check_primitives : PySem.W.keepIn K (.ref f_check_primitives) = true)
    (a_check_plain_names : PySem.W.nsIn K mainGlobals "check_plain_names" = some (some (.ref f_check_plain_names)))
    (l_check_plain_names : K.lookup f_check_plain_names = some ⟨oc_check_plain_names, od_check_plain_names, .func (PySem.W.fnOf "check_plain_names" "check_plain_names" (defArgs s_check_plain_names) (defBody s_check_plain_names) (defScope s_check_plain_names) .none kV_check_plain_names dc_check_plain_names pm_check_plain_names an_check_plain_names cd_check_plain_names ct_check_plain_names), sl_check_plain_names⟩)
    (c_check_plain_names : PySem.W.codeIn K cd_check_plain_names "check_plain_names" = true)
    (k_check_plain_names : PySem.W.keepIn K (.ref f_check_plain_names) = true)
    (a_L_source : PySem.W.nsIn K mainGlobals "_law_source" = some (some (.ref f_L_source)))
    (l_L_source : K.lookup f_L_source = some ⟨oc_L_source, od_L_source, .func (PySem.W.fnOf "_law_source" "_law_source" (defArgs s__law_source) (defBody s__law_source) (defScope s__law_source) .none kV_L_source dc_L_source pm_L_source an_L_source cd_L_source ct_L_source), sl_L_source⟩)
    (c_L_source : PySem.W.codeIn K cd_L_source "_law_source" = true)
    (k_L_source : PySem.W.keepIn K (.ref f_L_source) = true)
    (a_L_pick : PySem.W.nsIn K mainGlobals "_law_pick" = some (some (.ref f_L_pick)))
    (l_L_pick : K.lookup f_L_pick = some ⟨oc_L_pick, od_L_pick, .func (PySem.W.fnOf "_law_pick" "_law_pick" (defArgs s__law_pick) (defBody s__law_pick) (defScope s__law_pick) .none kV_L_pick dc_L_pick pm_L_pick an_L_pick cd_L_pick ct_L_pick), sl_L_pick⟩)
    (c_L_pick : PySem.W.codeIn K cd_L_pick "_law_pick" = true)
    (k_L_pick : PySem.W.keepIn K (.ref f_L_pick) = true)
    (a_L_of : PySem.W.nsIn K mainGlobals "_law_of" = some (some (.ref f_L_of)))
    (l_L_of : K.lookup f_L_of = some ⟨oc_L_of, od_L_of, .func (PySem.W.fnOf "_law_of" "_law_of" (defArgs s__law_of) (defBody s__law_of) (defScope s__law_of) .none kV_L_of dc_L_of pm_L_of an_L_of cd_L_of ct_L_of), sl_L_of⟩)
    (c_L_of : PySem.W.codeIn K cd_L_of "_law_of" = true)
    (k_L_of : PySem.W.keepIn K (.ref f_L_of) = true)
    (a_L_some : PySem.W.nsIn K mainGlobals "_law_some" = some (some (.ref f_L_some)))
    (l_L_some : K.lookup f_L_some = some ⟨oc_L_some, od_L_some, .func (PySem.W.fnOf "_law_some" "_law_some" (defArgs s__law_some) (defBody s__law_some) (defScope s__law_some) .none kV_L_some dc_L_some pm_L_some an_L_some cd_L_some ct_L_some), sl_L_some⟩)
    (c_L_some : PySem.W.codeIn K cd_L_some "_law_some" = true)
    (k_L_some : PySem.W.keepIn K (.ref f_L_some) = true)
    (a_L_pool : PySem.W.nsIn K mainGlobals "_law_pool" = some (some (.ref f_L_pool)))
    (l_L_pool : K.lookup f_L_pool = some ⟨oc_L_pool, od_L_pool, .func (PySem.W.fnOf "_law_pool" "_law_pool" (defArgs s__law_pool) (defBody s__law_pool) (defScope s__law_pool) .none kV_L_pool dc_L_pool pm_L_pool an_L_pool cd_L_pool ct_L_pool), sl_L_pool⟩)
    (c_L_pool : PySem.W.codeIn K cd_L_pool "_law_pool" = true)
    (k_L_pool : PySem.W.keepIn K (.ref f_L_pool) = true)
    (a_L_is_listing : PySem.W.nsIn K mainGlobals "_law_is_listing" = some (some (.ref f_L_is_listing)))
    (l_L_is_listing : K.lookup f_L_is_listing = some ⟨oc_L_is_listing, od_L_is_listing, .func (PySem.W.fnOf "_law_is_listing" "_law_is_listing" (defArgs s__law_is_listing) (defBody s__law_is_listing) (defScope s__law_is_listing) .none kV_L_is_listing dc_L_is_listing pm_L_is_listing an_L_is_listing cd_L_is_listing ct_L_is_listing), sl_L_is_listing⟩)
    (c_L_is_listing : PySem.W.codeIn K cd_L_is_listing "_law_is_listing" = true)
    (k_L_is_listing : PySem.W.keepIn K (.ref f_L_is_listing) = true)
    (a_L_is_row : PySem.W.nsIn K mainGlobals "_law_is_row" = some (some (.ref f_L_is_row)))
    (l_L_is_row : K.lookup f_L_is_row = some ⟨oc_L_is_row, od_L_is_row, .func (PySem.W.fnOf "_law_is_row" "_law_is_row" (defArgs s__law_is_row) (defBody s__law_is_row) (defScope s__law_is_row) .none kV_L_is_row dc_L_is_row pm_L_is_row an_L_is_row cd_L_is_row ct_L_is_row), sl_L_is_row⟩)
    (c_L_is_row : PySem.W.codeIn K cd_L_is_row "_law_is_row" = true)
    (k_L_is_row : PySem.W.keepIn K (.ref f_L_is_row) = true)
    (a_L_is_word : PySem.W.nsIn K mainGlobals "_law_is_word" = some (some (.ref f_L_is_word)))
    (l_L_is_word : K.lookup f_L_is_word = some ⟨oc_L_is_word, od_L_is_word, .func (PySem.W.fnOf "_law_is_word" "_law_is_word" (defArgs s__law_is_word) (defBody s__law_is_word) (defScope s__law_is_word) .none kV_L_is_word dc_L_is_word pm_L_is_word an_L_is_word cd_L_is_word ct_L_is_word), sl_L_is_word⟩)
    (c_L_is_word : PySem.W.codeIn K cd_L_is_word "_law_is_word" = true)
    (k_L_is_word : PySem.W.keepIn K (.ref f_L_is_word) = true)
    (a_L_is_name : PySem.W.nsIn K mainGlobals "_law_is_name" = some (some (.ref f_L_is_name)))
    (l_L_is_name : K.lookup f_L_is_name = some ⟨oc_L_is_name, od_L_is_name, .func (PySem.W.fnOf "_law_is_name" "_law_is_name" (defArgs s__law_is_name) (defBody s__law_is_name) (defScope s__law_is_name) .none kV_L_is_name dc_L_is_name pm_L_is_name an_L_is_name cd_L_is_name ct_L_is_name), sl_L_is_name⟩)
    (c_L_is_name : PySem.W.codeIn K cd_L_is_name "_law_is_name" = true)
    (k_L_is_name : PySem.W.keepIn K (.ref f_L_is_name) = true)
    (a_L_is_count : PySem.W.nsIn K mainGlobals "_law_is_count" = some (some (.ref f_L_is_count)))
    (l_L_is_count : K.lookup f_L_is_count = some ⟨oc_L_is_count, od_L_is_count, .func (PySem.W.fnOf "_law_is_count" "_law_is_count" (defArgs s__law_is_count) (defBody s__law_is_count) (defScope s__law_is_count) .none kV_L_is_count dc_L_is_count pm_L_is_count an_L_is_count cd_L_is_count ct_L_is_count), sl_L_is_count⟩)
    (c_L_is_count : PySem.W.codeIn K cd_L_is_count "_law_is_count" = true)
    (k_L_is_count : PySem.W.keepIn K (.ref f_L_is_count) = true)
    (a_L_bent : PySem.W.nsIn K mainGlobals "_law_bent" = some (some (.ref f_L_bent)))
    (l_L_bent : K.lookup f_L_bent = some ⟨oc_L_bent, od_L_bent, .func (PySem.W.fnOf "_law_bent" "_law_bent" (defArgs s__law_bent) (defBody s__law_bent) (defScope s__law_bent) .none kV_L_bent dc_L_bent pm_L_bent an_L_bent cd_L_bent ct_L_bent), sl_L_bent⟩)
    (c_L_bent : PySem.W.codeIn K cd_L_bent "_law_bent" = true)
    (k_L_bent : PySem.W.keepIn K (.ref f_L_bent) = true)
    (a_L_book_parts : PySem.W.nsIn K mainGlobals "_law_book_parts" = some (some (.ref f_L_book_parts)))
    (l_L_book_parts : K.lookup f_L_book_parts = some ⟨oc_L_book_parts, od_L_book_parts, .func (PySem.W.fnOf "_law_book_parts" "_law_book_parts" (defArgs s__law_book_parts) (defBody s__law_book_parts) (defScope s__law_book_parts) .none kV_L_book_parts dc_L_book_parts pm_L_book_parts an_L_book_parts cd_L_book_parts ct_L_book_parts), sl_L_book_parts⟩)
    (c_L_book_parts : PySem.W.codeIn K cd_L_book_parts "_law_book_parts" = true)
    (k_L_book_parts : PySem.W.keepIn K (.ref f_L_book_parts) = true)
    (a_L_book : PySem.W.nsIn K mainGlobals "_law_book" = some (some (.ref f_L_book)))
    (l_L_book : K.lookup f_L_book = some ⟨oc_L_book, od_L_book, .func (PySem.W.fnOf "_law_book" "_law_book" (defArgs s__law_book) (defBody s__law_book) (defScope s__law_book) .none kV_L_book dc_L_book pm_L_book an_L_book cd_L_book ct_L_book), sl_L_book⟩)
    (c_L_book : PySem.W.codeIn K cd_L_book "_law_book" = true)
    (k_L_book : PySem.W.keepIn K (.ref f_L_book) = true)
    (a_L_wrong_member : PySem.W.nsIn K mainGlobals "_law_wrong_member" = some (some (.ref f_L_wrong_member)))
    (l_L_wrong_member : K.lookup f_L_wrong_member = some ⟨oc_L_wrong_member, od_L_wrong_member, .func (PySem.W.fnOf "_law_wrong_member" "_law_wrong_member" (defArgs s__law_wrong_member) (defBody s__law_wrong_member) (defScope s__law_wrong_member) .none kV_L_wrong_member dc_L_wrong_member pm_L_wrong_member an_L_wrong_member cd_L_wrong_member ct_L_wrong_member), sl_L_wrong_member⟩)
    (c_L_wrong_member : PySem.W.codeIn K cd_L_wrong_member "_law_wrong_member" = true)
    (k_L_wrong_member : PySem.W.keepIn K (.ref f_L_wrong_member) = true)
    (a_L_wrong_book : PySem.W.nsIn K mainGlobals "_law_wrong_book" = some (some (.ref f_L_wrong_book)))
    (l_L_wrong_book : K.lookup f_L_wrong_book = some ⟨oc_L_wrong_book, od_L_wrong_book, .func (PySem.W.fnOf "_law_wrong_book" "_law_wrong_book" (defArgs s__law_wrong_book) (defBody s__law_wrong_book) (defScope s__law_wrong_book) .none kV_L_wrong_book dc_L_wrong_book pm_L_wrong_book an_L_wrong_book cd_L_wrong_book ct_L_wrong_book), sl_L_wrong_book⟩)
    (c_L_wrong_book : PySem.W.codeIn K cd_L_wrong_book "_law_wrong_book" = true)
    (k_L_wrong_book : PySem.W.keepIn K (.ref f_L_wrong_book) = true)
    (a_L_refused : PySem.W.nsIn K mainGlobals "_law_refused" = some (some (.ref f_L_refused)))
    (l_L_refused : K.lookup f_L_refused = some ⟨oc_L_refused, od_L_refused, .func (PySem.W.fnOf "_law_refused" "_law_refused" (defArgs s__law_refused) (defBody s__law_refused) (defScope s__law_refused) .none kV_L_refused dc_L_refused pm_L_refused an_L_refused cd_L_refused ct_L_refused), sl_L_refused⟩)
    (c_L_refused : PySem.W.codeIn K cd_L_refused "_law_refused" = true)
    (k_L_refused : PySem.W.keepIn K (.ref f_L_refused) = true)
    (a_L_missing : PySem.W.nsIn K mainGlobals "_law_missing" = some (some (.ref f_L_missing)))
    (l_L_missing : K.lookup f_L_missing = some ⟨oc_L_missing, od_L_missing, .func (PySem.W.fnOf "_law_missing" "_law_missing" (defArgs s__law_missing) (defBody s__law_missing) (defScope s__law_missing) .none kV_L_missing dc_L_missing pm_L_missing an_L_missing cd_L_missing ct_L_missing), sl_L_missing⟩)
    (c_L_missing : PySem.W.codeIn K cd_L_missing "_law_missing" = true)
    (k_L_missing : PySem.W.keepIn K (.ref f_L_missing) = true)
    (a_L_told_right : PySem.W.nsIn K mainGlobals "_law_told_right" = some (some (.ref f_L_told_right)))
    (l_L_told_right : K.lookup f_L_told_right = some ⟨oc_L_told_right, od_L_told_right, .func (PySem.W.fnOf "_law_told_right" "_law_told_right" (defArgs s__law_told_right) (defBody s__law_told_right) (defScope s__law_told_right) .none kV_L_told_right dc_L_told_right pm_L_told_right an_L_told_right cd_L_told_right ct_L_told_right), sl_L_told_right⟩)
    (c_L_told_right : PySem.W.codeIn K cd_L_told_right "_law_told_right" = true)
    (k_L_told_right : PySem.W.keepIn K (.ref f_L_told_right) = true)
    (a_L_looks_right : PySem.W.nsIn K mainGlobals "_law_looks_right" = some (some (.ref f_L_looks_right)))
    (l_L_looks_right : K.lookup f_L_looks_right = some ⟨oc_L_looks_right, od_L_looks_right, .func (PySem.W.fnOf "_law_looks_right" "_law_looks_right" (defArgs s__law_looks_right) (defBody s__law_looks_right) (defScope s__law_looks_right) .none kV_L_looks_right dc_L_looks_right pm_L_looks_right an_L_looks_right (.ref cc_L_looks_right) ct_L_looks_right), sl_L_looks_right⟩)
    (c_L_looks_right : PySem.W.codeIn K (.ref cc_L_looks_right) "_law_looks_right" = true)
    (k_L_looks_right : PySem.W.keepIn K (.ref f_L_looks_right) = true)
    (a_L_turned : PySem.W.nsIn K mainGlobals "_law_turned" = some (some (.ref f_L_turned)))
    (l_L_turned : K.lookup f_L_turned = some ⟨oc_L_turned, od_L_turned, .func (PySem.W.fnOf "_law_turned" "_law_turned" (defArgs s__law_turned) (defBody s__law_turned) (defScope s__law_turned) .none kV_L_turned dc_L_turned pm_L_turned an_L_turned cd_L_turned ct_L_turned), sl_L_turned⟩)
    (c_L_turned : PySem.W.codeIn K cd_L_turned "_law_turned" = true)
    (k_L_turned : PySem.W.keepIn K (.ref f_L_turned) = true)
    (a_L_is_small : PySem.W.nsIn K mainGlobals "_law_is_small" = some (some (.ref f_L_is_small)))
    (l_L_is_small : K.lookup f_L_is_small = some ⟨oc_L_is_small, od_L_is_small, .func (PySem.W.fnOf "_law_is_small" "_law_is_small" (defArgs s__law_is_small) (defBody s__law_is_small) (defScope s__law_is_small) .none kV_L_is_small dc_L_is_small pm_L_is_small an_L_is_small cd_L_is_small ct_L_is_small), sl_L_is_small⟩)
    (c_L_is_small : PySem.W.codeIn K cd_L_is_small "_law_is_small" = true)
    (k_L_is_small : PySem.W.keepIn K (.ref f_L_is_small) = true)
    (a_Law : PySem.W.nsIn K mainGlobals "law" = some (some (.ref f_Law)))
    (l_Law : K.lookup f_Law = some ⟨oc_Law, od_Law, .func (PySem.W.fnOf "law" "law" (defArgs s_law) (defBody s_law) (defScope s_law) .none kV_Law dc_Law pm_Law an_Law cd_Law ct_Law), sl_Law⟩)
    (c_Law : PySem.W.codeIn K cd_Law "law" = true)
    (k_Law : PySem.W.keepIn K (.ref f_Law) = true)
    (a_Book : PySem.W.nsIn K mainGlobals "Book" = some (some (.ref C)))
    (a_BadBook : PySem.W.nsIn K mainGlobals "BadBook" = some (some (.ref CB)))
    (a_WrongPart : PySem.W.nsIn K mainGlobals "WrongPart" = some (some (.ref CW)))
    (a_UnknownName : PySem.W.nsIn K mainGlobals "UnknownName" = some (some (.ref CU)))
    (a_ActorsError : PySem.W.nsIn K mainGlobals "ActorsError" = some (some (.ref CA)))
    (a_NameMissing : PySem.W.nsIn K mainGlobals "NameMissing" = some (some (.ref CN)))
    (a_Binit : PySem.W.findIn K (.ref C) "__init__" = some (some (.ref f_Binit)))
    (k1_Binit : PySem.W.isFn K (.ref f_Binit) = true)
    (l_Binit : K.lookup f_Binit = some ⟨oc_Binit, od_Binit, .func (PySem.W.fnOf "__init__" "Book.__init__" (defArgs s_Book___init__) (defBody s_Book___init__) (defScope s_Book___init__) .none kV_Binit dc_Binit pm_Binit an_Binit cd_Binit ct_Binit), sl_Binit⟩)
    (c_Binit : PySem.W.codeIn K cd_Binit "Book.__init__" = true)
    (k_Binit : PySem.W.keepIn K (.ref f_Binit) = true)
    (a_Beq : PySem.W.findIn K (.ref C) "__eq__" = some (some (.ref f_Beq)))
    (k1_Beq : PySem.W.isFn K (.ref f_Beq) = true)
    (l_Beq : K.lookup f_Beq = some ⟨oc_Beq, od_Beq, .func (PySem.W.fnOf "__eq__" "Book.__eq__" (defArgs s_Book___eq__) (defBody s_Book___eq__) (defScope s_Book___eq__) .none kV_Beq dc_Beq pm_Beq an_Beq cd_Beq ct_Beq), sl_Beq⟩)
    (c_Beq : PySem.W.codeIn K cd_Beq "Book.__eq__" = true)
    (k_Beq : PySem.W.keepIn K (.ref f_Beq) = true)
    (a_Bparts : PySem.W.findIn K (.ref C) "_parts" = some (some (.ref f_Bparts)))
    (k1_Bparts : PySem.W.isFn K (.ref f_Bparts) = true)
    (l_Bparts : K.lookup f_Bparts = some ⟨oc_Bparts, od_Bparts, .func (PySem.W.fnOf "_parts" "Book._parts" (defArgs s_Book__parts) (defBody s_Book__parts) (defScope s_Book__parts) .none kV_Bparts dc_Bparts pm_Bparts an_Bparts cd_Bparts ct_Bparts), sl_Bparts⟩)
    (c_Bparts : PySem.W.codeIn K cd_Bparts "Book._parts" = true)
    (k_Bparts : PySem.W.keepIn K (.ref f_Bparts) = true)
    (a_Bsorts : PySem.W.findIn K (.ref C) "sorts" = some (some (.ref f_Bsorts)))
    (k1_Bsorts : PySem.W.isFn K (.ref f_Bsorts) = true)
    (l_Bsorts : K.lookup f_Bsorts = some ⟨oc_Bsorts, od_Bsorts, .func (PySem.W.fnOf "sorts" "Book.sorts" (defArgs s_Book_sorts) (defBody s_Book_sorts) (defScope s_Book_sorts) .none kV_Bsorts dc_Bsorts pm_Bsorts an_Bsorts cd_Bsorts ct_Bsorts), sl_Bsorts⟩)
    (c_Bsorts : PySem.W.codeIn K cd_Bsorts "Book.sorts" = true)
    (k_Bsorts : PySem.W.keepIn K (.ref f_Bsorts) = true)
    (a_Bprims : PySem.W.findIn K (.ref C) "primitives" = some (some (.ref f_Bprims)))
    (k1_Bprims : PySem.W.isFn K (.ref f_Bprims) = true)
    (l_Bprims : K.lookup f_Bprims = some ⟨oc_Bprims, od_Bprims, .func (PySem.W.fnOf "primitives" "Book.primitives" (defArgs s_Book_primitives) (defBody s_Book_primitives) (defScope s_Book_primitives) .none kV_Bprims dc_Bprims pm_Bprims an_Bprims cd_Bprims ct_Bprims), sl_Bprims⟩)
    (c_Bprims : PySem.W.codeIn K cd_Bprims "Book.primitives" = true)
    (k_Bprims : PySem.W.keepIn K (.ref f_Bprims) = true)
    (a_Bports : PySem.W.findIn K (.ref C) "ports" = some (some (.ref f_Bports)))
    (k1_Bports : PySem.W.isFn K (.ref f_Bports) = true)
    (l_Bports : K.lookup f_Bports = some ⟨oc_Bports, od_Bports, .func (PySem.W.fnOf "ports" "Book.ports" (defArgs s_Book_ports) (defBody s_Book_ports) (defScope s_Book_ports) .none kV_Bports dc_Bports pm_Bports an_Bports cd_Bports ct_Bports), sl_Bports⟩)
    (c_Bports : PySem.W.codeIn K cd_Bports "Book.ports" = true)
    (k_Bports : PySem.W.keepIn K (.ref f_Bports) = true)
    (a_Breas : PySem.W.findIn K (.ref C) "reasons" = some (some (.ref f_Breas)))
    (k1_Breas : PySem.W.isFn K (.ref f_Breas) = true)
    (l_Breas : K.lookup f_Breas = some ⟨oc_Breas, od_Breas, .func (PySem.W.fnOf "reasons" "Book.reasons" (defArgs s_Book_reasons) (defBody s_Book_reasons) (defScope s_Book_reasons) .none kV_Breas dc_Breas pm_Breas an_Breas cd_Breas ct_Breas), sl_Breas⟩)
    (c_Breas : PySem.W.codeIn K cd_Breas "Book.reasons" = true)
    (k_Breas : PySem.W.keepIn K (.ref f_Breas) = true)
    (a_Bwords : PySem.W.findIn K (.ref C) "words" = some (some (.ref f_Bwords)))
    (k1_Bwords : PySem.W.isFn K (.ref f_Bwords) = true)
    (l_Bwords : K.lookup f_Bwords = some ⟨oc_Bwords, od_Bwords, .func (PySem.W.fnOf "words" "Book.words" (defArgs s_Book_words) (defBody s_Book_words) (defScope s_Book_words) .none kV_Bwords dc_Bwords pm_Bwords an_Bwords cd_Bwords ct_Bwords), sl_Bwords⟩)
    (c_Bwords : PySem.W.codeIn K cd_Bwords "Book.words" = true)
    (k_Bwords : PySem.W.keepIn K (.ref f_Bwords) = true)
    (a_Bcount : PySem.W.findIn K (.ref C) "count" = some (some (.ref f_Bcount)))
    (k1_Bcount : PySem.W.isFn K (.ref f_Bcount) = true)
    (l_Bcount : K.lookup f_Bcount = some ⟨oc_Bcount, od_Bcount, .func (PySem.W.fnOf "count" "Book.count" (defArgs s_Book_count) (defBody s_Book_count) (defScope s_Book_count) .none kV_Bcount dc_Bcount pm_Bcount an_Bcount cd_Bcount ct_Bcount), sl_Bcount⟩)
    (c_Bcount : PySem.W.codeIn K cd_Bcount "Book.count" = true)
    (k_Bcount : PySem.W.keepIn K (.ref f_Bcount) = true)
    (a_BBinit : PySem.W.findIn K (.ref CB) "__init__" = some (some (.ref f_BBinit)))
    (k1_BBinit : PySem.W.isFn K (.ref f_BBinit) = true)
    (l_BBinit : K.lookup f_BBinit = some ⟨oc_BBinit, od_BBinit, .func (PySem.W.fnOf "__init__" "BadBook.__init__" (defArgs s_BadBook___init__) (defBody s_BadBook___init__) (defScope s_BadBook___init__) .none kV_BBinit dc_BBinit pm_BBinit an_BBinit cd_BBinit ct_BBinit), sl_BBinit⟩)
    (c_BBinit : PySem.W.codeIn K cd_BBinit "BadBook.__init__" = true)
    (k_BBinit : PySem.W.keepIn K (.ref f_BBinit) = true)
    (a_Winit : PySem.W.findIn K (.ref CW) "__init__" = some (some (.ref f_Winit)))
    (k1_Winit : PySem.W.isFn K (.ref f_Winit) = true)
    (l_Winit : K.lookup f_Winit = some ⟨oc_Winit, od_Winit, .func (PySem.W.fnOf "__init__" "WrongPart.__init__" (defArgs s_WrongPart___init__) (defBody s_WrongPart___init__) (defScope s_WrongPart___init__) .none kV_Winit dc_Winit pm_Winit an_Winit cd_Winit ct_Winit), sl_Winit⟩)
    (c_Winit : PySem.W.codeIn K cd_Winit "WrongPart.__init__" = true)
    (k_Winit : PySem.W.keepIn K (.ref f_Winit) = true)
    (a_Uinit : PySem.W.findIn K (.ref CU) "__init__" = some (some (.ref f_Uinit)))
    (k1_Uinit : PySem.W.isFn K (.ref f_Uinit) = true)
    (l_Uinit : K.lookup f_Uinit = some ⟨oc_Uinit, od_Uinit, .func (PySem.W.fnOf "__init__" "UnknownName.__init__" (defArgs s_UnknownName___init__) (defBody s_UnknownName___init__) (defScope s_UnknownName___init__) .none kV_Uinit dc_Uinit pm_Uinit an_Uinit cd_Uinit ct_Uinit), sl_Uinit⟩)
    (c_Uinit : PySem.W.codeIn K cd_Uinit "UnknownName.__init__" = true)
    (k_Uinit : PySem.W.keepIn K (.ref f_Uinit) = true)
    (a_LETTERS : PySem.W.nsIn K mainGlobals "LETTERS" = some (some (.str "abcdefghijklmnopqrstuvwxyz" tk_LETTERS)))
    (a_DIGITS : PySem.W.nsIn K mainGlobals "DIGITS" = some (some (.str "0123456789" tk_DIGITS)))
    (a_LONGEST : PySem.W.nsIn K mainGlobals "LONGEST" = some (some (.int 12 tk_LONGEST)))
    (a_KEPT_WORDS : PySem.W.nsIn K mainGlobals "KEPT_WORDS" = some (some (.ref aK)))
    (l_KEPT : K.lookup aK = some ⟨.type "tuple", od_K, .seq #[.str "closed" tk_k0, .str "ended" tk_k1, .str "gone" tk_k2, .str "self" tk_k3, .str "why" tk_k4] n_K, sl_K⟩)
    (k_pg : PySem.W.plainGet K C Str.empty = true)
    (k_hd : PySem.W.hasDictIn K C = true)
    (k_po : PySem.W.plainOver K C = true)
    (k_sa : PySem.W.findIn K (.ref C) "__setattr__" = some (some (.builtin "object.__setattr__")))
    (k_mk : PySem.W.makesIn K C = true)
    (k_kc : PySem.W.keepIn K (.ref C) = true)
    (k_n0 : PySem.W.findIn K (.ref C) "_sorts" = some none)
    (k_n1 : PySem.W.findIn K (.ref C) "_primitives" = some none)
    (k_n2 : PySem.W.findIn K (.ref C) "_ports" = some none)
    (k_n3 : PySem.W.findIn K (.ref C) "_reasons" = some none)
    (k_n4 : PySem.W.findIn K (.ref C) "_words" = some none)
    (k_n5 : PySem.W.findIn K (.ref C) "_counts" = some none)
    (k_cl : PySem.W.findIn K (.ref C) "__class__" = some (some (.builtin "object.__class__")))
    (k_sp : PySem.W.specialIn K (.builtin "object.__class__") "__get__" = some (some (.builtin "getset_descriptor.__get__")))
    (k_tk : PySem.W.takesIn K (.builtin "object.__class__") = some true)
    (k_mo : PySem.W.mroIn K C (.type "object") = some true)
    (k_me : PySem.W.kitOne K (.ref C) (.ref C) = some true)
    (k_ne : neIn K C f_Beq = true)
    (k_kn : PySem.W.kitOne K (.type "NoneType") (.ref C) = some false)
    (k_sn : PySem.W.subIn K (.type "NoneType") (.ref C) = some false)
    (k_kl : PySem.W.kitOne K (.type "list") (.ref C) = some false)
    (k_sl : PySem.W.subIn K (.type "list") (.ref C) = some false)
    (k_ki : PySem.W.kitOne K (.type "int") (.ref C) = some false)
    (k_si : PySem.W.subIn K (.type "int") (.ref C) = some false)
    (k_xCB : xclB K CB veL "ValueError.__new__" = true)
    (k_saCB : PySem.W.findIn K (.ref CB) "__setattr__" = some (some (.builtin "object.__setattr__")))
    (k_kpCB : PySem.W.keepIn K (.ref CB) = true)
    (k_noCB : PySem.W.findIn K (.ref CB) "path" = some none)
    (k_tICB : PySem.W.typeIn K (.ref f_BBinit) = some (.type "function"))
    (k_gaCB : PySem.W.findIn K (.ref CB) "__getattribute__" = some (some (.builtin "BaseException.__getattribute__")))
    (k_ggCB : PySem.W.findIn K (.ref CB) "__getattr__" = some none)
    (k_exCB : PySem.W.subIn K (.ref CB) (.type "BaseException") = some true)
    (k_hdCB : PySem.W.hasDictIn K CB = true)
    (k_tyCB : PySem.W.typeIn K (.ref CB) = some (.type "type"))
    (k_teCB : PySem.W.exmOne K (.ref CB) (.ref CB) = some true)
    (k_xCW : xclB K CW exL "Exception.__new__" = true)
    (k_saCW : PySem.W.findIn K (.ref CW) "__setattr__" = some (some (.builtin "object.__setattr__")))
    (k_kpCW : PySem.W.keepIn K (.ref CW) = true)
    (k_noCW : PySem.W.findIn K (.ref CW) "path" = some none)
    (k_tICW : PySem.W.typeIn K (.ref f_Winit) = some (.type "function"))
    (k_gaCW : PySem.W.findIn K (.ref CW) "__getattribute__" = some (some (.builtin "BaseException.__getattribute__")))
    (k_ggCW : PySem.W.findIn K (.ref CW) "__getattr__" = some none)
    (k_exCW : PySem.W.subIn K (.ref CW) (.type "BaseException") = some true)
    (k_hdCW : PySem.W.hasDictIn K CW = true)
    (k_tyCW : PySem.W.typeIn K (.ref CW) = some (.type "type"))
    (k_teCW : PySem.W.exmOne K (.ref CW) (.ref CW) = some true)
    (k_xCU : xclB K CU leL "LookupError.__new__" = true)
    (k_saCU : PySem.W.findIn K (.ref CU) "__setattr__" = some (some (.builtin "object.__setattr__")))
    (k_kpCU : PySem.W.keepIn K (.ref CU) = true)
    (k_noCU : PySem.W.findIn K (.ref CU) "name" = some none)
    (k_tICU : PySem.W.typeIn K (.ref f_Uinit) = some (.type "function"))
    (k_gaCU : PySem.W.findIn K (.ref CU) "__getattribute__" = some (some (.builtin "BaseException.__getattribute__")))
    (k_ggCU : PySem.W.findIn K (.ref CU) "__getattr__" = some none)
    (k_exCU : PySem.W.subIn K (.ref CU) (.type "BaseException") = some true)
    (k_hdCU : PySem.W.hasDictIn K CU = true)
    (k_tyCU : PySem.W.typeIn K (.ref CU) = some (.type "type"))
    (k_teCU : PySem.W.exmOne K (.ref CU) (.ref CU) = some true)
    (k_bgCA : PySem.W.specialIn K (.ref CA) "__getattribute__" = some (some (.builtin "type.__getattribute__")))
    (k_brCA : PySem.W.readsIn K CA (.type "type") = true)
    (k_baCA : PySem.W.findCls K (.ref CA) (.type "type") "__init__" = some (.val (.builtin "ValueError.__init__")))
    (k_bgCN : PySem.W.specialIn K (.ref CN) "__getattribute__" = some (some (.builtin "type.__getattribute__")))
    (k_brCN : PySem.W.readsIn K CN (.type "type") = true)
    (k_baCN : PySem.W.findCls K (.ref CN) (.type "type") "__init__" = some (.val (.builtin "LookupError.__init__")))
    (z_int : PySem.W.nsIn K mainGlobals "int" = some none)
    (z_abs : PySem.W.nsIn K mainGlobals "abs" = some none)
    (z_len : PySem.W.nsIn K mainGlobals "len" = some none)
    (z_range : PySem.W.nsIn K mainGlobals "range" = some none)
    (z_str : PySem.W.nsIn K mainGlobals "str" = some none)
    (z_tuple : PySem.W.nsIn K mainGlobals "tuple" = some none)
    (z_list : PySem.W.nsIn K mainGlobals "list" = some none)
    (z_dict : PySem.W.nsIn K mainGlobals "dict" = some none)
    (z_repr : PySem.W.nsIn K mainGlobals "repr" = some none)
    (z_isinstance : PySem.W.nsIn K mainGlobals "isinstance" = some none)
    (z_all : PySem.W.nsIn K mainGlobals "all" = some none)
    (z_bool : PySem.W.nsIn K mainGlobals "bool" = some none)
    (z_enumerate : PySem.W.nsIn K mainGlobals "enumerate" = some none)
    (z_Exception : PySem.W.nsIn K mainGlobals "Exception" = some none)
    (t_at_L_looks_right : PySem.W.tabIn K "_law_looks_right" = some (cc_L_looks_right, t_L_looks_right))
    (t_off_L_looks_right : K.lookup t_L_looks_right = none)
    : ∃ (fd : FuncData) (cs : List (Addr × Addr)) (sp : Sp), (∀ p ∈ cs, ∃ y ∈ [("_law_looks_right" : Str)], PySem.W.tabIn K y = some p) ∧ (∀ p ∈ cs, (K).lookup p.2 = none) ∧ (∀ (s : Shared) (u : Value), BindsTo s fd ⟨[u], []⟩ [("_law_script", u)]) ∧
        (∀ (H : Hp) (a : Addr) (ns : List Int), ns.length ≤ 63 → (∀ p ∈ cs, H p.2 = some (.tbl #[])) → SqL K H a (ns.map V.int) → sp [.ref a] H (fun v _ => v = .bl true) fun _ _ _ => False) ∧
        ∀ base : Heap, (K).In base → base.Ns mainGlobals mg → (∀ p ∈ cs, TabB base mg p.1 p.2) → FnG P w K mg base CX0 12 fa fd ["_law_script"] sp := by
  have e := hfa.symm.trans (PySem.W.mg_of X G a_Law)
  cases e
  have n_int := PySem.W.mg_none_of X G z_int
  have n_abs := PySem.W.mg_none_of X G z_abs
  have n_len := PySem.W.mg_none_of X G z_len
  have n_range := PySem.W.mg_none_of X G z_range
  have n_str := PySem.W.mg_none_of X G z_str
  have n_tuple := PySem.W.mg_none_of X G z_tuple
  have n_list := PySem.W.mg_none_of X G z_list
  have n_dict := PySem.W.mg_none_of X G z_dict
  have n_repr := PySem.W.mg_none_of X G z_repr
  have n_isinstance := PySem.W.mg_none_of X G z_isinstance
  have n_all := PySem.W.mg_none_of X G z_all
  have n_bool := PySem.W.mg_none_of X G z_bool
  have n_enumerate := PySem.W.mg_none_of X G z_enumerate
  have n_Exception := PySem.W.mg_none_of X G z_Exception
  have F_is_word := fun_mk (st := s_is_word) l_is_word c_is_word k_is_word
  have b_is_word := F_is_word.binds (ps := ["value"]) fun _ _ _ _ _ _ us hl => match us, hl with | [_], _ => rfl
  have m_is_word := PySem.W.mg_of X G a_is_word
  have F_is_name := fun_mk (st := s_is_name) l_is_name c_is_name k_is_name
  have b_is_name := F_is_name.binds (ps := ["value"]) fun _ _ _ _ _ _ us hl => match us, hl with | [_], _ => rfl
  have m_is_name := PySem.W.mg_of X G a_is_name
  have F_is_number := fun_mk (st := s_is_number) l_is_number c_is_number k_is_number
  have b_is_number := F_is_number.binds (ps := ["value"]) fun _ _ _ _ _ _ us hl => match us, hl with | [_], _ => rfl
  have m_is_number := PySem.W.mg_of X G a_is_number
  have F_require := fun_mk (st := s_require) l_require c_require k_require
  have b_require := F_require.binds (ps := ["holds", "path"]) fun _ _ _ _ _ _ us hl => match us, hl with | [_, _], _ => rfl
  have m_require := PySem.W.mg_of X G a_require
  have F_is_list := fun_mk (st := s_is_list) l_is_list c_is_list k_is_list
  have b_is_list := F_is_list.binds (ps := ["value"]) fun _ _ _ _ _ _ us hl => match us, hl with | [_], _ => rfl
  have m_is_list := PySem.W.mg_of X G a_is_list
  have F_is_row := fun_mk (st := s_is_row) l_is_row c_is_row k_is_row
  have b_is_row := F_is_row.binds (ps := ["value", "many"]) fun _ _ _ _ _ _ us hl => match us, hl with | [_, _], _ => rfl
  have m_is_row := PySem.W.mg_of X G a_is_row
  have F_is_key := fun_mk (st := s_is_key) l_is_key c_is_key k_is_key
  have b_is_key := F_is_key.binds (ps := ["table", "value"]) fun _ _ _ _ _ _ us hl => match us, hl with | [_, _], _ => rfl
  have m_is_key := PySem.W.mg_of X G a_is_key
  have F_check_new_name := fun_mk (st := s_check_new_name) l_check_new_name c_check_new_name k_check_new_name
  have b_check_new_name := F_check_new_name.binds (ps := ["value", "path", "earlier"]) fun _ _ _ _ _ _ us hl => match us, hl with | [_, _, _], _ => rfl
  have m_check_new_name := PySem.W.mg_of X G a_check_new_name
  have F_check_sorts := fun_mk (st := s_check_sorts) l_check_sorts c_check_sorts k_check_sorts
  have b_check_sorts := F_check_sorts.binds (ps := ["sorts"]) fun _ _ _ _ _ _ us hl => match us, hl with | [_], _ => rfl
  have m_check_sorts := PySem.W.mg_of X G a_check_sorts
  have F_check_sort_words := fun_mk (st := s_check_sort_words) l_check_sort_words c_check_sort_words k_check_sort_words
  have b_check_sort_words := F_check_sort_words.binds (ps := ["words", "path"]) fun _ _ _ _ _ _ us hl => match us, hl with | [_, _], _ => rfl
  have m_check_sort_words := PySem.W.mg_of X G a_check_sort_words
  have F_check_primitives := fun_mk (st := s_check_primitives) l_check_primitives c_check_primitives k_check_primitives
  have b_check_primitives := F_check_primitives.binds (ps := ["primitives"]) fun _ _ _ _ _ _ us hl => match us, hl with | [_], _ => rfl
  have m_check_primitives := PySem.W.mg_of X G a_check_primitives
  have F_check_plain_names := fun_mk (st := s_check_plain_names) l_check_plain_names c_check_plain_names k_check_plain_names
  have b_check_plain_names := F_check_plain_names.binds (ps := ["names", "path"]) fun _ _ _ _ _ _ us hl => match us, hl with | [_, _], _ => rfl
  have m_check_plain_names := PySem.W.mg_of X G a_check_plain_names
  have F_L_source := fun_mk (st := s__law_source) l_L_source c_L_source k_L_source
  have b_L_source := F_L_source.binds (ps := ["_law_script"]) fun _ _ _ _ _ _ us hl => match us, hl with | [_], _ => rfl
  have m_L_source := PySem.W.mg_of X G a_L_source
  have F_L_pick := fun_mk (st := s__law_pick) l_L_pick c_L_pick k_L_pick
  have b_L_pick := F_L_pick.binds (ps := ["_law_source_here", "_law_many"]) fun _ _ _ _ _ _ us hl => match us, hl with | [_, _], _ => rfl
  have m_L_pick := PySem.W.mg_of X G a_L_pick
  have F_L_of := fun_mk (st := s__law_of) l_L_of c_L_of k_L_of
  have b_L_of := F_L_of.binds (ps := ["_law_source_here", "_law_some_here"]) fun _ _ _ _ _ _ us hl => match us, hl with | [_, _], _ => rfl
  have m_L_of := PySem.W.mg_of X G a_L_of
  have F_L_some := fun_mk (st := s__law_some) l_L_some c_L_some k_L_some
  have b_L_some := F_L_some.binds (ps := ["_law_source_here", "_law_pool_here", "_law_least", "_law_most"]) fun _ _ _ _ _ _ us hl => match us, hl with | [_, _, _, _], _ => rfl
  have m_L_some := PySem.W.mg_of X G a_L_some
  have F_L_pool := fun_mk (st := s__law_pool) l_L_pool c_L_pool k_L_pool
  have b_L_pool := F_L_pool.binds (ps := ["_law_source_here", "_law_some_here"]) fun _ _ _ _ _ _ us hl => match us, hl with | [_, _], _ => rfl
  have m_L_pool := PySem.W.mg_of X G a_L_pool
  have F_L_is_listing := fun_mk (st := s__law_is_listing) l_L_is_listing c_L_is_listing k_L_is_listing
  have b_L_is_listing := F_L_is_listing.binds (ps := ["_law_value"]) fun _ _ _ _ _ _ us hl => match us, hl with | [_], _ => rfl
  have m_L_is_listing := PySem.W.mg_of X G a_L_is_listing
  have F_L_is_row := fun_mk (st := s__law_is_row) l_L_is_row c_L_is_row k_L_is_row
  have b_L_is_row := F_L_is_row.binds (ps := ["_law_value", "_law_count"]) fun _ _ _ _ _ _ us hl => match us, hl with | [_, _], _ => rfl
  have m_L_is_row := PySem.W.mg_of X G a_L_is_row
  have F_L_is_word := fun_mk (st := s__law_is_word) l_L_is_word c_L_is_word k_L_is_word
  have b_L_is_word := F_L_is_word.binds (ps := ["_law_value"]) fun _ _ _ _ _ _ us hl => match us, hl with | [_], _ => rfl
  have m_L_is_word := PySem.W.mg_of X G a_L_is_word
  have F_L_is_name := fun_mk (st := s__law_is_name) l_L_is_name c_L_is_name k_L_is_name
  have b_L_is_name := F_L_is_name.binds (ps := ["_law_value"]) fun _ _ _ _ _ _ us hl => match us, hl with | [_], _ => rfl
  have m_L_is_name := PySem.W.mg_of X G a_L_is_name
  have F_L_is_count := fun_mk (st := s__law_is_count) l_L_is_count c_L_is_count k_L_is_count
  have b_L_is_count := F_L_is_count.binds (ps := ["_law_value", "_law_least"]) fun _ _ _ _ _ _ us hl => match us, hl with | [_, _], _ => rfl
  have m_L_is_count := PySem.W.mg_of X G a_L_is_count
  have F_L_bent := fun_mk (st := s__law_bent) l_L_bent c_L_bent k_L_bent
  have b_L_bent := F_L_bent.binds (ps := ["_law_source_here", "_law_value", "_law_deep", "_law_odd"]) fun _ _ _ _ _ _ us hl => match us, hl with | [_, _, _, _], _ => rfl
  have m_L_bent := PySem.W.mg_of X G a_L_bent
  have F_L_book_parts := fun_mk (st := s__law_book_parts) l_L_book_parts c_L_book_parts k_L_book_parts
  have b_L_book_parts := F_L_book_parts.binds (ps := ["_law_source_here"]) fun _ _ _ _ _ _ us hl => match us, hl with | [_], _ => rfl
  have m_L_book_parts := PySem.W.mg_of X G a_L_book_parts
  have F_L_book := fun_mk (st := s__law_book) l_L_book c_L_book k_L_book
  have b_L_book := F_L_book.binds (ps := ["_law_parts"]) fun _ _ _ _ _ _ us hl => match us, hl with | [_], _ => rfl
  have m_L_book := PySem.W.mg_of X G a_L_book
  have F_L_wrong_member := fun_mk (st := s__law_wrong_member) l_L_wrong_member c_L_wrong_member k_L_wrong_member
  have b_L_wrong_member := F_L_wrong_member.binds (ps := ["_law_number", "_law_rows", "_law_k"]) fun _ _ _ _ _ _ us hl => match us, hl with | [_, _, _], _ => rfl
  have m_L_wrong_member := PySem.W.mg_of X G a_L_wrong_member
  have F_L_wrong_book := fun_mk (st := s__law_wrong_book) l_L_wrong_book c_L_wrong_book k_L_wrong_book
  have b_L_wrong_book := F_L_wrong_book.binds (ps := ["_law_parts"]) fun _ _ _ _ _ _ us hl => match us, hl with | [_], _ => rfl
  have m_L_wrong_book := PySem.W.mg_of X G a_L_wrong_book
  have F_L_refused := fun_mk (st := s__law_refused) l_L_refused c_L_refused k_L_refused
  have b_L_refused := F_L_refused.binds (ps := ["_law_parts"]) fun _ _ _ _ _ _ us hl => match us, hl with | [_], _ => rfl
  have m_L_refused := PySem.W.mg_of X G a_L_refused
  have F_L_missing := fun_mk (st := s__law_missing) l_L_missing c_L_missing k_L_missing
  have b_L_missing := F_L_missing.binds (ps := ["_law_call"]) fun _ _ _ _ _ _ us hl => match us, hl with | [_], _ => rfl
  have m_L_missing := PySem.W.mg_of X G a_L_missing
  have F_L_told_right := fun_mk (st := s__law_told_right) l_L_told_right c_L_told_right k_L_told_right
  have b_L_told_right := F_L_told_right.binds (ps := ["_law_book_here", "_law_parts"]) fun _ _ _ _ _ _ us hl => match us, hl with | [_, _], _ => rfl
  have m_L_told_right := PySem.W.mg_of X G a_L_told_right
  have F_L_looks_right : FunC K "_law_looks_right" "_law_looks_right" s__law_looks_right f_L_looks_right _ cc_L_looks_right := ⟨⟨_, _, _, _, _, _, _, _, rfl, l_L_looks_right, c_L_looks_right⟩, k_L_looks_right⟩
  have F0_L_looks_right := fun_mk (st := s__law_looks_right) l_L_looks_right c_L_looks_right k_L_looks_right
  have b_L_looks_right := F0_L_looks_right.binds (ps := ["_law_source_here", "_law_book_here", "_law_parts"]) fun _ _ _ _ _ _ us hl => match us, hl with | [_, _, _], _ => rfl
  have m_L_looks_right := PySem.W.mg_of X G a_L_looks_right
  have F_L_turned := fun_mk (st := s__law_turned) l_L_turned c_L_turned k_L_turned
  have b_L_turned := F_L_turned.binds (ps := ["_law_source_here", "_law_parts"]) fun _ _ _ _ _ _ us hl => match us, hl with | [_, _], _ => rfl
  have m_L_turned := PySem.W.mg_of X G a_L_turned
  have F_L_is_small := fun_mk (st := s__law_is_small) l_L_is_small c_L_is_small k_L_is_small
  have b_L_is_small := F_L_is_small.binds (ps := ["_law_parts"]) fun _ _ _ _ _ _ us hl => match us, hl with | [_], _ => rfl
  have m_L_is_small := PySem.W.mg_of X G a_L_is_small
  have F_Law := fun_mk (st := s_law) l_Law c_Law k_Law
  have b_Law := F_Law.binds (ps := ["_law_script"]) fun _ _ _ _ _ _ us hl => match us, hl with | [_], _ => rfl
  have m_Law := PySem.W.mg_of X G a_Law
  have F_Binit := fun_mk (st := s_Book___init__) l_Binit c_Binit k_Binit
  have b_Binit := F_Binit.binds (ps := ["self", "sorts", "primitives", "ports", "reasons"]) fun _ _ _ _ _ _ us hl => match us, hl with | [_, _, _, _, _], _ => rfl
  have M_Binit : Meth K C "__init__" f_Binit := ⟨a_Binit, k1_Binit, k_Binit⟩
  have F_Beq := fun_mk (st := s_Book___eq__) l_Beq c_Beq k_Beq
  have b_Beq := F_Beq.binds (ps := ["self", "other"]) fun _ _ _ _ _ _ us hl => match us, hl with | [_, _], _ => rfl
  have M_Beq : Meth K C "__eq__" f_Beq := ⟨a_Beq, k1_Beq, k_Beq⟩
  have F_Bparts := fun_mk (st := s_Book__parts) l_Bparts c_Bparts k_Bparts
  have b_Bparts := F_Bparts.binds (ps := ["self"]) fun _ _ _ _ _ _ us hl => match us, hl with | [_], _ => rfl
  have M_Bparts : Meth K C "_parts" f_Bparts := ⟨a_Bparts, k1_Bparts, k_Bparts⟩
  have F_Bsorts := fun_mk (st := s_Book_sorts) l_Bsorts c_Bsorts k_Bsorts
  have b_Bsorts := F_Bsorts.binds (ps := ["self"]) fun _ _ _ _ _ _ us hl => match us, hl with | [_], _ => rfl
  have M_Bsorts : Meth K C "sorts" f_Bsorts := ⟨a_Bsorts, k1_Bsorts, k_Bsorts⟩
  have F_Bprims := fun_mk (st := s_Book_primitives) l_Bprims c_Bprims k_Bprims
  have b_Bprims := F_Bprims.binds (ps := ["self"]) fun _ _ _ _ _ _ us hl => match us, hl with | [_], _ => rfl
  have M_Bprims : Meth K C "primitives" f_Bprims := ⟨a_Bprims, k1_Bprims, k_Bprims⟩
  have F_Bports := fun_mk (st := s_Book_ports) l_Bports c_Bports k_Bports
  have b_Bports := F_Bports.binds (ps := ["self"]) fun _ _ _ _ _ _ us hl => match us, hl with | [_], _ => rfl
  have M_Bports : Meth K C "ports" f_Bports := ⟨a_Bports, k1_Bports, k_Bports⟩
  have F_Breas := fun_mk (st := s_Book_reasons) l_Breas c_Breas k_Breas
  have b_Breas := F_Breas.binds (ps := ["self"]) fun _ _ _ _ _ _ us hl => match us, hl with | [_], _ => rfl
  have M_Breas : Meth K C "reasons" f_Breas := ⟨a_Breas, k1_Breas, k_Breas⟩
  have F_Bwords := fun_mk (st := s_Book_words) l_Bwords c_Bwords k_Bwords
  have b_Bwords := F_Bwords.binds (ps := ["self", "sort"]) fun _ _ _ _ _ _ us hl => match us, hl with | [_, _], _ => rfl
  have M_Bwords : Meth K C "words" f_Bwords := ⟨a_Bwords, k1_Bwords, k_Bwords⟩
  have F_Bcount := fun_mk (st := s_Book_count) l_Bcount c_Bcount k_Bcount
  have b_Bcount := F_Bcount.binds (ps := ["self", "primitive"]) fun _ _ _ _ _ _ us hl => match us, hl with | [_, _], _ => rfl
  have M_Bcount : Meth K C "count" f_Bcount := ⟨a_Bcount, k1_Bcount, k_Bcount⟩
  have F_BBinit := fun_mk (st := s_BadBook___init__) l_BBinit c_BBinit k_BBinit
  have b_BBinit := F_BBinit.binds (ps := ["self", "path"]) fun _ _ _ _ _ _ us hl => match us, hl with | [_, _], _ => rfl
  have M_BBinit : Meth K CB "__init__" f_BBinit := ⟨a_BBinit, k1_BBinit, k_BBinit⟩
  have F_Winit := fun_mk (st := s_WrongPart___init__) l_Winit c_Winit k_Winit
  have b_Winit := F_Winit.binds (ps := ["self", "path"]) fun _ _ _ _ _ _ us hl => match us, hl with | [_, _], _ => rfl
  have M_Winit : Meth K CW "__init__" f_Winit := ⟨a_Winit, k1_Winit, k_Winit⟩
  have F_Uinit := fun_mk (st := s_UnknownName___init__) l_Uinit c_Uinit k_Uinit
  have b_Uinit := F_Uinit.binds (ps := ["self", "name"]) fun _ _ _ _ _ _ us hl => match us, hl with | [_, _], _ => rfl
  have M_Uinit : Meth K CU "__init__" f_Uinit := ⟨a_Uinit, k1_Uinit, k_Uinit⟩
  have m_LETTERS := PySem.W.mg_of X G a_LETTERS
  have m_DIGITS := PySem.W.mg_of X G a_DIGITS
  have m_LONGEST := PySem.W.mg_of X G a_LONGEST
  have m_KEPT_WORDS := PySem.W.mg_of X G a_KEPT_WORDS
  have m_Book := PySem.W.mg_of X G a_Book
  have m_BadBook := PySem.W.mg_of X G a_BadBook
  have m_WrongPart := PySem.W.mg_of X G a_WrongPart
  have m_UnknownName := PySem.W.mg_of X G a_UnknownName
  have m_ActorsError := PySem.W.mg_of X G a_ActorsError
  have m_NameMissing := PySem.W.mg_of X G a_NameMissing
  have cl : Cls K C := ⟨k_pg, k_hd, k_po, k_sa⟩
  have M : BkTxt K C := ⟨cl, k_n0, k_n1, k_n2, k_n3, k_n4, k_n5⟩
  have Ic : C8.InsC K C := ⟨cl, k_cl, k_sp, k_tk, k_mo, k_me⟩
  have Kt : Kit K C := ⟨k_kn, k_kl, k_ki, k_sn, k_sl, k_si⟩
  have xB := xcl_of k_xCB k_saCB k_kpCB
  have fB : XfC K CB := ⟨k_gaCB, k_ggCB, k_exCB, k_hdCB⟩
  have BB : BBTxt K mg CB f_BBinit := ⟨oex_of k_xCB k_saCB k_exCB k_tyCB k_kpCB, xB, k_noCB, a_BBinit, k_tICB, m_BadBook, fB⟩
  have WT : WTxt K mg CW f_Winit := ⟨xcl_of k_xCW k_saCW k_kpCW, k_noCW, a_Winit, k_tICW, k_exCW, k_tyCW, m_WrongPart, ⟨k_gaCW, k_ggCW, k_exCW, k_hdCW⟩, k_teCW⟩
  have UT : UTxt K mg CU f_Uinit := ⟨xcl_of k_xCU k_saCU k_kpCU, k_noCU, a_Uinit, k_tICU, k_exCU, k_tyCU, m_UnknownName, ⟨k_gaCU, k_ggCU, k_exCU, k_hdCU⟩, k_teCU⟩
  have BIA : BaseI K CA "ValueError.__init__" := ⟨k_bgCA, k_brCA, k_baCA⟩
  have BIN : BaseI K CN "LookupError.__init__" := ⟨k_bgCN, k_brCN, k_baCN⟩
  have w_KEPT : ∀ H, SqT K H aK (kept.map V.str) := fun H => .inr ⟨_, _, _, l_KEPT, rfl, rfl, (by show (5 : Nat) ≤ sizeLine; rw [sizeLine_eq]; decide), .cons ⟨_, rfl⟩ (.cons ⟨_, rfl⟩ (.cons ⟨_, rfl⟩ (.cons ⟨_, rfl⟩ (.cons ⟨_, rfl⟩ .nil))))⟩
  refine ⟨PySem.W.fnOf "law" "law" (defArgs s_law) (defBody s_law) (defScope s_law) .none kV_Law dc_Law pm_Law an_Law cd_Law ct_Law, [(cc_L_looks_right, t_L_looks_right)], spLaw K [(t_L_looks_right, q_L_looks_right)], ?_, ?_, fun s v => .of_eq rfl, ?_, fun base kb nb TB => ?_⟩
  · intro p hp
    rw [List.mem_singleton.mp hp]
    exact ⟨"_law_looks_right", by simp, t_at_L_looks_right⟩
  · intro p hp
    rw [List.mem_singleton.mp hp]
    exact t_off_L_looks_right
  · intro H a ns hl hH hS
    refine ⟨a, ns, rfl, hS, hl, fun p hp => ?_, fun _ => rfl⟩
    rw [List.mem_singleton.mp hp]
    exact TabS.nil (hH (cc_L_looks_right, t_L_looks_right) (by simp))
  have hu : ∀ p ∈ [(t_L_looks_right, q_L_looks_right)], p.1 = t_L_looks_right → p.2 = q_L_looks_right := by
    intro p hp e
    rw [List.mem_singleton.mp hp]
  have Hpick : Has P w K mg base 1 "_law_pick" _ spPick2 := ⟨_, _, ok_pick F_L_pick n_int n_len, m_L_pick, k_L_pick, b_L_pick⟩
  have Hof : Has P w K mg base 2 "_law_of" _ (spOf2 K) := ⟨_, _, ok_of F_L_of n_len Hpick, m_L_of, k_L_of, b_L_of⟩
  have Hsome : Has P w K mg base 2 "_law_some" _ (spSome K) := ⟨_, _, ok_some F_L_some n_len n_list n_range Hpick, m_L_some, k_L_some, b_L_some⟩
  have Hpool : Has P w K mg base 2 "_law_pool" _ (spPool K) := ⟨_, _, ok_pool F_L_pool n_len Hpick, m_L_pool, k_L_pool, b_L_pool⟩
  have Hwd : Has P w K mg base 1 "is_word" _ (spIsWord K w) := ⟨_, _, ok_is_word F_is_word n_isinstance n_str n_len n_all m_LETTERS m_DIGITS m_LONGEST, m_is_word, k_is_word, b_is_word⟩
  have Hnum : Has P w K mg base 1 "is_number" _ (spIsNumber K w) := ⟨_, _, ok_is_number F_is_number n_isinstance n_int n_bool, m_is_number, k_is_number, b_is_number⟩
  have Hlst : Has P w K mg base 1 "is_list" _ (spIsList K w) := ⟨_, _, ok_is_list F_is_list n_isinstance n_list n_tuple, m_is_list, k_is_list, b_is_list⟩
  have Hrow : Has P w K mg base 1 "is_row" _ (spIsRow K w) := ⟨_, _, ok_is_row F_is_row n_isinstance n_len n_tuple, m_is_row, k_is_row, b_is_row⟩
  have Hname : Has P w K mg base 2 "is_name" _ (spIsName K w) := ⟨_, _, ok_is_name F_is_name m_KEPT_WORDS w_KEPT Hwd, m_is_name, k_is_name, b_is_name⟩
  have Hkey : ∀ b : Heap, Has P w K mg b 1 "is_key" _ (spIsKey K w) := fun b => ⟨_, _, ok_is_key F_is_key n_isinstance n_str, m_is_key, k_is_key, b_is_key⟩
  have Hreq : HasN P w K mg base 3 "require" _ (spRequire K CW) := ⟨_, _, ok_require F_require WT (ok_winit F_Winit WT n_Exception) b_Winit, m_require, k_require, b_require⟩
  have Hnew : HasN P w K mg base 4 "check_new_name" _ (spNewName K w CW) := ⟨_, _, ok_check_new_name F_check_new_name Hname Hreq, m_check_new_name, k_check_new_name, b_check_new_name⟩
  have Hsw : HasN P w K mg base 4 "check_sort_words" _ (spSortWords K w CW) := ⟨_, _, ok_check_sort_words F_check_sort_words n_isinstance n_tuple n_len n_enumerate Hwd Hreq, m_check_sort_words, k_check_sort_words, b_check_sort_words⟩
  have Hso : HasN P w K mg base 5 "check_sorts" _ (spChk K w CW sortsR) := ⟨_, _, ok_check_sorts F_check_sorts n_enumerate Hlst Hrow Hreq Hnew Hsw, m_check_sorts, k_check_sorts, b_check_sorts⟩
  have Hpr : HasN P w K mg base 5 "check_primitives" _ (spChk K w CW primsR) := ⟨_, _, ok_check_primitives F_check_primitives n_enumerate Hlst Hrow Hreq Hnew Hnum, m_check_primitives, k_check_primitives, b_check_primitives⟩
  have Hpl : HasN P w K mg base 5 "check_plain_names" _ (spPlain K w CW) := ⟨_, _, ok_check_plain_names F_check_plain_names n_enumerate Hlst Hreq Hnew, m_check_plain_names, k_check_plain_names, b_check_plain_names⟩
  have GBB := ok_bbinit (P := P) (w := w) (base := base) F_BBinit BB BIA m_ActorsError n_tuple
  have GI := ok_binit (P := P) (w := w) (base := base) F_Binit M WT BB n_tuple n_dict GBB b_BBinit Hso Hpr Hpl
  have Mm : Mk K C f_Binit := ⟨k_mk, a_Binit, k1_Binit, k_kc⟩
  have Gbook := ok_law_book (P := P) (w := w) (base := base) F_L_book Mm m_Book GI b_Binit
  have GU : ∀ b : Heap, FnOk P w K mg b CX0 1 f_Uinit _ _ (spUInit K CU) := fun b => ok_uinit F_Uinit UT BIN m_NameMissing
  have GW : ∀ b : Heap, FnOk P w K mg b (L2.CX P w) 3 f_Bwords _ _ (spWords K w C CU) := fun b => ok_words F_Bwords M UT (GU b) b_Uinit n_list (Hkey b)
  have GC : ∀ b : Heap, FnOk P w K mg b (L2.CX P w) 3 f_Bcount _ _ (spCount K w C CU) := fun b => ok_count F_Bcount M UT (GU b) b_Uinit (Hkey b)
  have Hlw : Has P w K mg base 1 "_law_is_word" _ (spIsWord K w) := ⟨_, _, ok_law_is_word F_L_is_word n_isinstance n_str n_len, m_L_is_word, k_L_is_word, b_L_is_word⟩
  have Hll : Has P w K mg base 1 "_law_is_listing" _ (spIsListing K w) := ⟨_, _, ok_law_is_listing F_L_is_listing n_isinstance n_list n_tuple, m_L_is_listing, k_L_is_listing, b_L_is_listing⟩
  have Hlr : Has P w K mg base 1 "_law_is_row" _ (spIsRow K w) := ⟨_, _, ok_law_is_row F_L_is_row n_isinstance n_len n_tuple, m_L_is_row, k_L_is_row, b_L_is_row⟩
  have Hln : Has P w K mg base 2 "_law_is_name" _ (spIsName K w) := ⟨_, _, ok_law_is_name F_L_is_name Hlw, m_L_is_name, k_L_is_name, b_L_is_name⟩
  have Hlc : Has P w K mg base 1 "_law_is_count" _ (spIsCount K w) := ⟨_, _, ok_law_is_count F_L_is_count n_isinstance n_int n_bool, m_L_is_count, k_L_is_count, b_L_is_count⟩
  have Hwm : Has P w K mg base 3 "_law_wrong_member" _ (spWrongMember K w) := ⟨_, _, ok_wrong_member F_L_wrong_member n_tuple n_list n_isinstance n_len n_range Hlr Hln Hlc Hlw, m_L_wrong_member, k_L_wrong_member, b_L_wrong_member⟩
  have Geq := ok_eq (P := P) (w := w) (base := base) F_Beq M Ic m_Book n_isinstance M_Bparts (ok_parts F_Bparts M) b_Bparts
  have Gtold := ok_told_right (P := P) (w := w) (base := base) F_L_told_right M n_tuple n_list n_range M_Bsorts (ok_sorts F_Bsorts M n_list) b_Bsorts M_Bprims (ok_primitives F_Bprims M n_list) b_Bprims M_Bports (ok_ports F_Bports M n_list) b_Bports M_Breas (ok_reasons F_Breas M n_list) b_Breas M_Bwords (GW base) b_Bwords M_Bcount (GC base) b_Bcount
  have Glooks := ok_looks (P := P) (w := w) (base := base) (T := [(t_L_looks_right, q_L_looks_right)]) F_L_looks_right M n_repr M_Bwords (fun b _ _ => GW b) b_Bwords M_Bcount (fun b _ _ => GC b) b_Bcount (fun b _ _ => ok_law_missing (k := 4) F_L_missing UT) m_L_missing k_L_missing b_L_missing (TB (cc_L_looks_right, t_L_looks_right) (by simp)) (by simp) hu Hwd Hname Hnum Hlw Hln Hlc
  exact ok_law F_Law Kt n_range n_repr n_len n_tuple Geq a_Beq k_ne k1_Beq b_Beq Gbook m_L_book k_L_book b_L_book Glooks m_L_looks_right k_L_looks_right b_L_looks_right
    ⟨_, _, ok_source F_L_source n_int n_abs n_len n_range, m_L_source, k_L_source, b_L_source⟩ Hpick
    ⟨_, _, ok_book_parts F_L_book_parts n_tuple Hpick Hsome Hpool, m_L_book_parts, k_L_book_parts, b_L_book_parts⟩
    ⟨_, _, Gtold, m_L_told_right, k_L_told_right, b_L_told_right⟩
    ⟨_, _, ok_bent F_L_bent m_L_bent b_L_bent n_tuple n_list n_isinstance n_len Hpick Hof Hll 6, m_L_bent, k_L_bent, b_L_bent⟩
    ⟨_, _, ok_turned F_L_turned Hpick, m_L_turned, k_L_turned, b_L_turned⟩ Hll
    ⟨_, _, ok_wrong_book F_L_wrong_book n_len n_range Hll Hwm, m_L_wrong_book, k_L_wrong_book, b_L_wrong_book⟩
    ⟨_, _, ok_is_small F_L_is_small n_len, m_L_is_small, k_L_is_small, b_L_is_small⟩
    ⟨_, _, ok_law_refused F_L_refused BB k_teCB Gbook m_L_book k_L_book b_L_book, m_L_refused, k_L_refused, b_L_refused⟩
theorem walk {l : PySem.W.OpenLaw} {q : Program} {loose : List Str} {XP : (Str → Option Value) → Heap → Prop} {YP : World → Heap → Prop} {d : DefRec} {K : Params → PySem.W.Frag} {d0 : DefRec}
    (hn : l.most = some 63) (hdf : d.params.defaults = []) (hY : ∀ (w : World) (h : Heap), YP w h → (K w.params).In h) (h0 : (recsOf q).find? (fun e => e.name == ("_law_looks_right" : Str)) = some d0)
    (F : ∀ (w : World) (mg : Str → Option Value) (fa : Addr) (h : Heap), (K w.params).In h → h.Ns mainGlobals mg → mg d.name = some (.ref fa) →
      ∃ (fd : FuncData) (cs : List (Addr × Addr)) (sp : Sp), (∀ p ∈ cs, ∃ y ∈ [("_law_looks_right" : Str)], PySem.W.tabIn (K w.params) y = some p) ∧ (∀ p ∈ cs, (K w.params).lookup p.2 = none) ∧ (∀ (s : Shared) (u : Value), BindsTo s fd ⟨[u], []⟩ [("_law_script", u)]) ∧
        (∀ (H : Hp) (a : Addr) (ns : List Int), ns.length ≤ 63 → (∀ p ∈ cs, H p.2 = some (.tbl #[])) → SqL (K w.params) H a (ns.map V.int) → sp [.ref a] H (fun v _ => v = .bl true) fun _ _ _ => False) ∧
        ∀ base : Heap, (K w.params).In base → base.Ns mainGlobals mg → (∀ p ∈ cs, TabB base mg p.1 p.2) → FnG l.prog w (K w.params) mg base CX0 12 fa fd ["_law_script"] sp) :
    PySem.W.WalkO q loose XP YP l.row.toRowW d [] (fun f vs => PySem.call f vs) :=
  walk_ofGT (n := 63) (k := 12) (x := "_law_script") (names := [("_law_looks_right" : Str)]) hn (by decide) hdf ⟨rfl, by decide, by decide⟩ hY (fun y hy => by
    rw [List.mem_singleton.mp hy]
    exact ⟨_, h0⟩) F
end L2.Vf.K01
open PySem PySem.W PyProof.Rows
set_option maxRecDepth 100000 in
set_option maxHeartbeats 0 in
theorem PySem.Challenge.cw_movedactors_k01_books_judged_holds : PySem.Challenge.rw_movedactors_k01_books_judged.Holds := by
  w_on; o_law; k_head; (case hw => w_witness2)
  k_fill
  refine L2.Vf.K01.walk (l := PySem.Challenge.rw_movedactors_k01_books_judged) rfl rfl (fun w h Y => PySem.W.km_in_of Y) rfl ?F
  case F =>
    intro w mg fa h KX G hmg
    refine' L2.Vf.K01.all_mk (t_L_looks_right := 376) KX G hmg ?a_is_word ?l_is_word ?c_is_word ?k_is_word ?a_is_name ?l_is_name ?c_is_name ?k_is_name ?a_is_number ?l_is_number ?c_is_number ?k_is_number ?a_require ?l_require ?c_require ?k_require ?a_is_list ?l_is_list ?c_is_list ?k_is_list ?a_is_row ?l_is_row ?c_is_row ?k_is_row ?a_is_key ?l_is_key ?c_is_key ?k_is_key ?a_check_new_name ?l_check_new_name ?c_check_new_name ?k_check_new_name ?a_check_sorts ?l_check_sorts ?c_check_sorts ?k_check_sorts ?a_check_sort_words ?l_check_sort_words ?c_check_sort_words ?k_check_sort_words ?a_check_primitives ?l_check_primitives ?c_check_primitives ?k_check_primitives ?a_check_plain_names ?l_check_plain_names ?c_check_plain_names ?k_check_plain_names ?a_L_source ?l_L_source ?c_L_source ?k_L_source ?a_L_pick ?l_L_pick ?c_L_pick ?k_L_pick ?a_L_of ?l_L_of ?c_L_of ?k_L_of ?a_L_some ?l_L_some ?c_L_some ?k_L_some ?a_L_pool ?l_L_pool ?c_L_pool ?k_L_pool ?a_L_is_listing ?l_L_is_listing ?c_L_is_listing ?k_L_is_listing ?a_L_is_row ?l_L_is_row ?c_L_is_row ?k_L_is_row ?a_L_is_word ?l_L_is_word ?c_L_is_word ?k_L_is_word ?a_L_is_name ?l_L_is_name ?c_L_is_name ?k_L_is_name ?a_L_is_count ?l_L_is_count ?c_L_is_count ?k_L_is_count ?a_L_bent ?l_L_bent ?c_L_bent ?k_L_bent ?a_L_book_parts ?l_L_book_parts ?c_L_book_parts ?k_L_book_parts ?a_L_book ?l_L_book ?c_L_book ?k_L_book ?a_L_wrong_member ?l_L_wrong_member ?c_L_wrong_member ?k_L_wrong_member ?a_L_wrong_book ?l_L_wrong_book ?c_L_wrong_book ?k_L_wrong_book ?a_L_refused ?l_L_refused ?c_L_refused ?k_L_refused ?a_L_missing ?l_L_missing ?c_L_missing ?k_L_missing ?a_L_told_right ?l_L_told_right ?c_L_told_right ?k_L_told_right ?a_L_looks_right ?l_L_looks_right ?c_L_looks_right ?k_L_looks_right ?a_L_turned ?l_L_turned ?c_L_turned ?k_L_turned ?a_L_is_small ?l_L_is_small ?c_L_is_small ?k_L_is_small ?a_Law ?l_Law ?c_Law ?k_Law ?a_Book ?a_BadBook ?a_WrongPart ?a_UnknownName ?a_ActorsError ?a_NameMissing ?a_Binit ?k1_Binit ?l_Binit ?c_Binit ?k_Binit ?a_Beq ?k1_Beq ?l_Beq ?c_Beq ?k_Beq ?a_Bparts ?k1_Bparts ?l_Bparts ?c_Bparts ?k_Bparts ?a_Bsorts ?k1_Bsorts ?l_Bsorts ?c_Bsorts ?k_Bsorts ?a_Bprims ?k1_Bprims ?l_Bprims ?c_Bprims ?k_Bprims ?a_Bports ?k1_Bports ?l_Bports ?c_Bports ?k_Bports ?a_Breas ?k1_Breas ?l_Breas ?c_Breas ?k_Breas ?a_Bwords ?k1_Bwords ?l_Bwords ?c_Bwords ?k_Bwords ?a_Bcount ?k1_Bcount ?l_Bcount ?c_Bcount ?k_Bcount ?a_BBinit ?k1_BBinit ?l_BBinit ?c_BBinit ?k_BBinit ?a_Winit ?k1_Winit ?l_Winit ?c_Winit ?k_Winit ?a_Uinit ?k1_Uinit ?l_Uinit ?c_Uinit ?k_Uinit ?a_LETTERS ?a_DIGITS ?a_LONGEST ?a_KEPT_WORDS ?l_KEPT ?k_pg ?k_hd ?k_po ?k_sa ?k_mk ?k_kc ?k_n0 ?k_n1 ?k_n2 ?k_n3 ?k_n4 ?k_n5 ?k_cl ?k_sp ?k_tk ?k_mo ?k_me ?k_ne ?k_kn ?k_sn ?k_kl ?k_sl ?k_ki ?k_si ?k_xCB ?k_saCB ?k_kpCB ?k_noCB ?k_tICB ?k_gaCB ?k_ggCB ?k_exCB ?k_hdCB ?k_tyCB ?k_teCB ?k_xCW ?k_saCW ?k_kpCW ?k_noCW ?k_tICW ?k_gaCW ?k_ggCW ?k_exCW ?k_hdCW ?k_tyCW ?k_teCW ?k_xCU ?k_saCU ?k_kpCU ?k_noCU ?k_tICU ?k_gaCU ?k_ggCU ?k_exCU ?k_hdCU ?k_tyCU ?k_teCU ?k_bgCA ?k_brCA ?k_baCA ?k_bgCN ?k_brCN ?k_baCN ?z_int ?z_abs ?z_len ?z_range ?z_str ?z_tuple ?z_list ?z_dict ?z_repr ?z_isinstance ?z_all ?z_bool ?z_enumerate ?z_Exception ?t_at_L_looks_right ?t_off_L_looks_right
    (case a_is_word => k_is)
    (case l_is_word => k_is)
    (case c_is_word => k_is)
    (case k_is_word => first | k_is | kernel_rfl | rfl)
    (case a_is_name => k_is)
    (case l_is_name => k_is)
    (case c_is_name => k_is)
    (case k_is_name => first | k_is | kernel_rfl | rfl)
    (case a_is_number => k_is)
    (case l_is_number => k_is)
    (case c_is_number => k_is)
    (case k_is_number => first | k_is | kernel_rfl | rfl)
    (case a_require => k_is)
    (case l_require => k_is)
    (case c_require => k_is)
    (case k_require => first | k_is | kernel_rfl | rfl)
    (case a_is_list => k_is)
    (case l_is_list => k_is)
    (case c_is_list => k_is)
    (case k_is_list => first | k_is | kernel_rfl | rfl)
    (case a_is_row => k_is)
    (case l_is_row => k_is)
    (case c_is_row => k_is)
    (case k_is_row => first | k_is | kernel_rfl | rfl)
    (case a_is_key => k_is)
    (case l_is_key => k_is)
    (case c_is_key => k_is)
    (case k_is_key => first | k_is | kernel_rfl | rfl)
    (case a_check_new_name => k_is)
    (case l_check_new_name => k_is)
    (case c_check_new_name => k_is)
    (case k_check_new_name => first | k_is | kernel_rfl | rfl)
    (case a_check_sorts => k_is)
    (case l_check_sorts => k_is)
    (case c_check_sorts => k_is)
    (case k_check_sorts => first | k_is | kernel_rfl | rfl)
    (case a_check_sort_words => k_is)
    (case l_check_sort_words => k_is)
    (case c_check_sort_words => k_is)
    (case k_check_sort_words => first | k_is | kernel_rfl | rfl)
    (case a_check_primitives => k_is)
    (case l_check_primitives => k_is)
    (case c_check_primitives => k_is)
    (case k_check_primitives => first | k_is | kernel_rfl | rfl)
    (case a_check_plain_names => k_is)
    (case l_check_plain_names => k_is)
    (case c_check_plain_names => k_is)
    (case k_check_plain_names => first | k_is | kernel_rfl | rfl)
    (case a_L_source => k_is)
    (case l_L_source => k_is)
    (case c_L_source => k_is)
    (case k_L_source => first | k_is | kernel_rfl | rfl)
    (case a_L_pick => k_is)
    (case l_L_pick => k_is)
    (case c_L_pick => k_is)
    (case k_L_pick => first | k_is | kernel_rfl | rfl)
    (case a_L_of => k_is)
    (case l_L_of => k_is)
    (case c_L_of => k_is)
    (case k_L_of => first | k_is | kernel_rfl | rfl)
    (case a_L_some => k_is)
    (case l_L_some => k_is)
    (case c_L_some => k_is)
    (case k_L_some => first | k_is | kernel_rfl | rfl)
    (case a_L_pool => k_is)
    (case l_L_pool => k_is)
    (case c_L_pool => k_is)
    (case k_L_pool => first | k_is | kernel_rfl | rfl)
    (case a_L_is_listing => k_is)
    (case l_L_is_listing => k_is)
    (case c_L_is_listing => k_is)
    (case k_L_is_listing => first | k_is | kernel_rfl | rfl)
    (case a_L_is_row => k_is)
    (case l_L_is_row => k_is)
    (case c_L_is_row => k_is)
    (case k_L_is_row => first | k_is | kernel_rfl | rfl)
    (case a_L_is_word => k_is)
    (case l_L_is_word => k_is)
    (case c_L_is_word => k_is)
    (case k_L_is_word => first | k_is | kernel_rfl | rfl)
    (case a_L_is_name => k_is)
    (case l_L_is_name => k_is)
    (case c_L_is_name => k_is)
    (case k_L_is_name => first | k_is | kernel_rfl | rfl)
    (case a_L_is_count => k_is)
    (case l_L_is_count => k_is)
    (case c_L_is_count => k_is)
    (case k_L_is_count => first | k_is | kernel_rfl | rfl)
    (case a_L_bent => k_is)
    (case l_L_bent => k_is)
    (case c_L_bent => k_is)
    (case k_L_bent => first | k_is | kernel_rfl | rfl)
    (case a_L_book_parts => k_is)
    (case l_L_book_parts => k_is)
    (case c_L_book_parts => k_is)
    (case k_L_book_parts => first | k_is | kernel_rfl | rfl)
    (case a_L_book => k_is)
    (case l_L_book => k_is)
    (case c_L_book => k_is)
    (case k_L_book => first | k_is | kernel_rfl | rfl)
    (case a_L_wrong_member => k_is)
    (case l_L_wrong_member => k_is)
    (case c_L_wrong_member => k_is)
    (case k_L_wrong_member => first | k_is | kernel_rfl | rfl)
    (case a_L_wrong_book => k_is)
    (case l_L_wrong_book => k_is)
    (case c_L_wrong_book => k_is)
    (case k_L_wrong_book => first | k_is | kernel_rfl | rfl)
    (case a_L_refused => k_is)
    (case l_L_refused => k_is)
    (case c_L_refused => k_is)
    (case k_L_refused => first | k_is | kernel_rfl | rfl)
    (case a_L_missing => k_is)
    (case l_L_missing => k_is)
    (case c_L_missing => k_is)
    (case k_L_missing => first | k_is | kernel_rfl | rfl)
    (case a_L_told_right => k_is)
    (case l_L_told_right => k_is)
    (case c_L_told_right => k_is)
    (case k_L_told_right => first | k_is | kernel_rfl | rfl)
    (case a_L_looks_right => k_is)
    (case l_L_looks_right => k_is)
    (case c_L_looks_right => k_is)
    (case k_L_looks_right => first | k_is | kernel_rfl | rfl)
    (case a_L_turned => k_is)
    (case l_L_turned => k_is)
    (case c_L_turned => k_is)
    (case k_L_turned => first | k_is | kernel_rfl | rfl)
    (case a_L_is_small => k_is)
    (case l_L_is_small => k_is)
    (case c_L_is_small => k_is)
    (case k_L_is_small => first | k_is | kernel_rfl | rfl)
    (case a_Law => k_is)
    (case l_Law => k_is)
    (case c_Law => k_is)
    (case k_Law => first | k_is | kernel_rfl | rfl)
    (case a_Book => k_is)
    (case a_BadBook => k_is)
    (case a_WrongPart => k_is)
    (case a_UnknownName => k_is)
    (case a_ActorsError => k_is)
    (case a_NameMissing => k_is)
    (case a_Binit => k_is)
    (case k1_Binit => k_is)
    (case l_Binit => k_is)
    (case c_Binit => k_is)
    (case k_Binit => first | k_is | kernel_rfl | rfl)
    (case a_Beq => k_is)
    (case k1_Beq => k_is)
    (case l_Beq => k_is)
    (case c_Beq => k_is)
    (case k_Beq => first | k_is | kernel_rfl | rfl)
    (case a_Bparts => k_is)
    (case k1_Bparts => k_is)
    (case l_Bparts => k_is)
    (case c_Bparts => k_is)
    (case k_Bparts => first | k_is | kernel_rfl | rfl)
    (case a_Bsorts => k_is)
    (case k1_Bsorts => k_is)
    (case l_Bsorts => k_is)
    (case c_Bsorts => k_is)
    (case k_Bsorts => first | k_is | kernel_rfl | rfl)
    (case a_Bprims => k_is)
    (case k1_Bprims => k_is)
    (case l_Bprims => k_is)
    (case c_Bprims => k_is)
    (case k_Bprims => first | k_is | kernel_rfl | rfl)
    (case a_Bports => k_is)
    (case k1_Bports => k_is)
    (case l_Bports => k_is)
    (case c_Bports => k_is)
    (case k_Bports => first | k_is | kernel_rfl | rfl)
    (case a_Breas => k_is)
    (case k1_Breas => k_is)
    (case l_Breas => k_is)
    (case c_Breas => k_is)
    (case k_Breas => first | k_is | kernel_rfl | rfl)
    (case a_Bwords => k_is)
    (case k1_Bwords => k_is)
    (case l_Bwords => k_is)
    (case c_Bwords => k_is)
    (case k_Bwords => first | k_is | kernel_rfl | rfl)
    (case a_Bcount => k_is)
    (case k1_Bcount => k_is)
    (case l_Bcount => k_is)
    (case c_Bcount => k_is)
    (case k_Bcount => first | k_is | kernel_rfl | rfl)
    (case a_BBinit => k_is)
    (case k1_BBinit => k_is)
    (case l_BBinit => k_is)
    (case c_BBinit => k_is)
    (case k_BBinit => first | k_is | kernel_rfl | rfl)
    (case a_Winit => k_is)
    (case k1_Winit => k_is)
    (case l_Winit => k_is)
    (case c_Winit => k_is)
    (case k_Winit => first | k_is | kernel_rfl | rfl)
    (case a_Uinit => k_is)
    (case k1_Uinit => k_is)
    (case l_Uinit => k_is)
    (case c_Uinit => k_is)
    (case k_Uinit => first | k_is | kernel_rfl | rfl)
    (case a_LETTERS => k_is)
    (case a_DIGITS => k_is)
    (case a_LONGEST => k_is)
    (case a_KEPT_WORDS => k_is)
    (case l_KEPT => k_is)
    (case k_pg => first | k_is | kernel_rfl | rfl)
    (case k_hd => first | k_is | kernel_rfl | rfl)
    (case k_po => first | k_is | kernel_rfl | rfl)
    (case k_sa => first | k_is | kernel_rfl | rfl)
    (case k_mk => first | k_is | kernel_rfl | rfl)
    (case k_kc => first | k_is | kernel_rfl | rfl)
    (case k_n0 => first | k_is | kernel_rfl | rfl)
    (case k_n1 => first | k_is | kernel_rfl | rfl)
    (case k_n2 => first | k_is | kernel_rfl | rfl)
    (case k_n3 => first | k_is | kernel_rfl | rfl)
    (case k_n4 => first | k_is | kernel_rfl | rfl)
    (case k_n5 => first | k_is | kernel_rfl | rfl)
    (case k_cl => first | k_is | kernel_rfl | rfl)
    (case k_sp => first | k_is | kernel_rfl | rfl)
    (case k_tk => first | k_is | kernel_rfl | rfl)
    (case k_mo => first | k_is | kernel_rfl | rfl)
    (case k_me => first | k_is | kernel_rfl | rfl)
    (case k_ne => first | k_is | kernel_rfl | rfl)
    (case k_kn => first | k_is | kernel_rfl | rfl)
    (case k_sn => first | k_is | kernel_rfl | rfl)
    (case k_kl => first | k_is | kernel_rfl | rfl)
    (case k_sl => first | k_is | kernel_rfl | rfl)
    (case k_ki => first | k_is | kernel_rfl | rfl)
    (case k_si => first | k_is | kernel_rfl | rfl)
    (case k_xCB => first | k_is | kernel_rfl | rfl)
    (case k_saCB => first | k_is | kernel_rfl | rfl)
    (case k_kpCB => first | k_is | kernel_rfl | rfl)
    (case k_noCB => first | k_is | kernel_rfl | rfl)
    (case k_tICB => first | k_is | kernel_rfl | rfl)
    (case k_gaCB => first | k_is | kernel_rfl | rfl)
    (case k_ggCB => first | k_is | kernel_rfl | rfl)
    (case k_exCB => first | k_is | kernel_rfl | rfl)
    (case k_hdCB => first | k_is | kernel_rfl | rfl)
    (case k_tyCB => first | k_is | kernel_rfl | rfl)
    (case k_teCB => first | k_is | kernel_rfl | rfl)
    (case k_xCW => first | k_is | kernel_rfl | rfl)
    (case k_saCW => first | k_is | kernel_rfl | rfl)
    (case k_kpCW => first | k_is | kernel_rfl | rfl)
    (case k_noCW => first | k_is | kernel_rfl | rfl)
    (case k_tICW => first | k_is | kernel_rfl | rfl)
    (case k_gaCW => first | k_is | kernel_rfl | rfl)
    (case k_ggCW => first | k_is | kernel_rfl | rfl)
    (case k_exCW => first | k_is | kernel_rfl | rfl)
    (case k_hdCW => first | k_is | kernel_rfl | rfl)
    (case k_tyCW => first | k_is | kernel_rfl | rfl)
    (case k_teCW => first | k_is | kernel_rfl | rfl)
    (case k_xCU => first | k_is | kernel_rfl | rfl)
    (case k_saCU => first | k_is | kernel_rfl | rfl)
    (case k_kpCU => first | k_is | kernel_rfl | rfl)
    (case k_noCU => first | k_is | kernel_rfl | rfl)
    (case k_tICU => first | k_is | kernel_rfl | rfl)
    (case k_gaCU => first | k_is | kernel_rfl | rfl)
    (case k_ggCU => first | k_is | kernel_rfl | rfl)
    (case k_exCU => first | k_is | kernel_rfl | rfl)
    (case k_hdCU => first | k_is | kernel_rfl | rfl)
    (case k_tyCU => first | k_is | kernel_rfl | rfl)
    (case k_teCU => first | k_is | kernel_rfl | rfl)
    (case k_bgCA => first | k_is | kernel_rfl | rfl)
    (case k_brCA => first | k_is | kernel_rfl | rfl)
    (case k_baCA => first | k_is | kernel_rfl | rfl)
    (case k_bgCN => first | k_is | kernel_rfl | rfl)
    (case k_brCN => first | k_is | kernel_rfl | rfl)
    (case k_baCN => first | k_is | kernel_rfl | rfl)
    (case z_int => k_is)
    (case z_abs => k_is)
    (case z_len => k_is)
    (case z_range => k_is)
    (case z_str => k_is)
    (case z_tuple => k_is)
    (case z_list => k_is)
    (case z_dict => k_is)
    (case z_repr => k_is)
    (case z_isinstance => k_is)
    (case z_all => k_is)
    (case z_bool => k_is)
    (case z_enumerate => k_is)
    (case z_Exception => k_is)
    (case t_at_L_looks_right => first | k_is | kernel_rfl | rfl)
    (case t_off_L_looks_right => first | k_is | kernel_rfl | rfl)
