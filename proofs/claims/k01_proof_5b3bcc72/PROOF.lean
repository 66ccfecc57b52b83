import PyProof.Rows.All
import Wide.All
import OpenK.AllK
import Wide.FinOn
import HandS.ForMost
import HandS.Exc
import HandS.WordsExc
import HandS.ExcInit
import HandS.FStr
import HandS.ClsMeth
import HandS.ExcCtx
import KE.KExcIs
import HandS.ExcField
import HandS.IsInst
import KE.KeyNested
import PyProof.DictRoadsH
import PyProof.DictMoreH
import HandS.Base
import HandS.Call
import HandS.List
import HandS.Dict
import HandS.Iter
import HandS.DictTup
import HandS.TupLen
import HandS.OwnEq
import KE.KDictWalk
import HandS.DictComp
import HandS.Comp
import KE.SortData
import HandS.Conv
import HandS.Wide
import HandS.Words
import HandS.More
import HandS.AnyAll
import HandS.HotCalls
import HandS.Defaults
import HandS.WordsDict
import HandS.Deep
import HandS.Text
import HandS.Ends
import PySem.Challenge.RW_figurehold_k01_sums_of_polynomials
set_option Elab.async false
set_option linter.all false
set_option maxRecDepth 100000
set_option maxHeartbeats 4000000
/-! Errors of own classes under an own base under Exception; each __init__ calls the base's, then keeps one field. -/
namespace PySem
namespace OwnErr
open PySem.W PySem.Calls PyProof.Rows PySem.HandSPX Builtin Builtin.ObjectAttr
def endE : List Value := [.type "Exception", .type "BaseException", .type "object"]
/-- a class's ancestors: own classes, then Exception's -/
def Line (l : List Value) : Prop := ∃ own : List Addr, l = own.map Value.ref ++ endE
theorem Line.cons {l : List Value} {C : Addr} (h : Line l) : Line (.ref C :: l) := by
  obtain ⟨own, e⟩ := h
  exact ⟨C :: own, by rw [e]; rfl⟩
theorem Line.has {l : List Value} (h : Line l) (T : String) : l.contains (.type T) = endE.contains (.type T) := by
  obtain ⟨own, rfl⟩ := h
  induction own with
  | nil => rfl
  | cons c r ih =>
    show List.contains (Value.ref c :: (r.map Value.ref ++ endE)) (Value.type T) = _
    rw [List.contains_cons, ih]
    exact Bool.false_or _
theorem Line.pass {l : List Value} (h : Line l) (me : Value) : refuseLoop me "__setattr__" l = pure () := by
  obtain ⟨own, rfl⟩ := h
  induction own with
  | nil => exact F.store_Exception.passes me
  | cons c r ih =>
    show refuseLoop me "__setattr__" (Value.ref c :: (r.map Value.ref ++ endE)) = _
    rw [refuseLoop_ref, ih]
theorem Line.some {l : List Value} (h : Line l) : l.isEmpty = false := by
  obtain ⟨own, rfl⟩ := h
  cases own <;> rfl
section
variable {prog : Program} {w : World} {A : Around} {E : Value → Shared → Prop} {R : Result → Shared → Prop} {hp : Heap} {g : Array GenState} {d : Drawn} {t : Nat} {os : OsState}
/-- the first field of an error at e that has no dict as yet: the dict at dx is laid -/
theorem first_field {K : W.Frag} {name : Str} {tk : Tok} {v : Value} {e C : Addr} {vs : Array Value} {cd : ClassData} (kin : K.In hp) (he : hp.get? e = some { cls := .ref C, data := .fields vs })
    (hcd : W.clsIn K C = some cd) (hl : Line cd.mro) (hh : cd.hasDict = true) (no : W.findIn K (.ref C) name = some none)
    (go : ∀ h2 tk2 dx, (∀ b o, b ≠ e → hp.get? b = some o → h2.get? b = some o) → hp.objs.size ≤ dx → dx ≠ e → h2.get? e = some { cls := .ref C, dict := some dx, data := .fields vs } →
      h2.Ns1 dx (fun y => if y = name then some v else none) → R (.ok (.ret .none)) ⟨h2, g, d, tk2, os⟩) :
    codeAny (model prog w) A (.call (.builtin "object.__setattr__") ⟨[.ref e, .str name tk, v], []⟩) R ⟨hp, g, d, t, os⟩ := by
  have at_ : W.InstAt hp e { cls := .ref C, data := .fields vs } C none := ⟨he, rfl, rfl, trivial⟩
  have so := F.store_object
  have mro : W.Looks (model prog w) hp (mroOf (.ref C)) cd.mro := (W.looks_clsIn kin hcd).andThen .now
  have old : e ≠ hp.objs.size := Nat.ne_of_lt (Heap.lt_size he)
  have isObj : W.Looks (model prog w) hp (isInstance (.ref e) (.type "object")) true :=
    at_.type.andThen (W.looks_mroIn kin (by unfold W.mroIn; rw [hcd, Option.bind_some, hl.some, hl.has]; decide +kernel))
  have cls : W.Looks (model prog w) hp (classData C) cd := W.looks_clsIn kin hcd
  have taker : W.Looks (model prog w) hp (storeTaker? none) none := .now
  refine codeAny_call_builtin so.slot.plain so.entry (@W.check_slot (model prog w) _ _ ⟨hp, g, d, t, os⟩ "object.__setattr__" "object" "__setattr__" (.ref e) [.str name tk, v] [] _ so.kind so.split isObj (so.args (.ref e) (.str name tk) v) ?_)
  rw [W.osa_eq, refuse_eq]
  refine wpAny_bind (wpAny_bind (at_.type.at (wpAny_bind (mro.at ?_))))
  rw [hl.pass]
  refine wpAny_pure (wpAny_bind (at_.type.at (wpAny_bind ((W.looks_findIn kin no).at (wpAny_bind (taker.at ?_))))))
  obtain ⟨_, _, _, _, _, hd, _, _, _, _, _⟩ := cd
  obtain rfl : hd = true := hh
  show wpAny _ _ (storeInOwnDict (.ref e) (.ref C) (.str name tk) name v false) _ _ _
  unfold storeInOwnDict ownDictForStores
  repeat (first | with_reducible refine HandSPX.store_in_new ?_ ?_ | with_reducible refine wpAny_loadPart_at he ?_ | with_reducible refine cls.at ?_ | wp_step)
  · exact ⟨_, #[], _, (Heap.get?_update_ne _ _ _ _ old.symm).trans (Heap.get?_push_at rfl rfl), rfl, fun z hz => absurd hz (by simp), fun _ => rfl⟩
  · intro h2 tk2 hn hs
    have there : (hp.push { cls := .type "dict", data := .dict #[] }).get? e = some { cls := .ref C, data := .fields vs } := Heap.get?_push_of_some _ he
    exact go h2 tk2 hp.objs.size (fun b o hb ho => (hs.2 b (Nat.ne_of_lt (Heap.lt_size ho))).trans ((Heap.get?_update_ne _ _ _ _ hb).trans (Heap.get?_push_of_some _ ho))) (Nat.le_refl _) old.symm
      ((hs.2 e old).trans (Heap.get?_update_self _ there rfl)) hn
end
end OwnErr
end PySem

namespace L2
open PySem PySem.Spec PyProof.Rows
/-- what the written part says of such a class -/
structure ErrC (K : PySem.W.Frag) (C : Addr) : Prop where
  cls : ∃ nm q N bs bm sn sub ab col dd k0 k1 k2 k3 k5, K.lookup C = some (excClassObj nm q C N bs bm true sn sub ab col dd k0 k1 k2 k3 k5 "Exception.__new__") ∧ PySem.OwnErr.Line bm
  sa : PySem.W.findIn K (.ref C) "__setattr__" = some (some (.builtin "object.__setattr__"))
  exC : PySem.W.subIn K (.ref C) (.type "BaseException") = some true
  tyC : PySem.W.typeIn K (.ref C) = some (.type "type")
  kC : PySem.W.keepIn K (.ref C) = true
/-- .. and of the base whose __init__ is called by name -/
structure BaseC (K : PySem.W.Frag) (B : Addr) : Prop where
  ga : PySem.W.specialIn K (.ref B) "__getattribute__" = some (some (.builtin "type.__getattribute__"))
  rd : PySem.W.readsIn (mc := .type "type") K B = true
  ini : PySem.W.findCls K (.ref B) (.type "type") "__init__" = some (.val (.builtin "Exception.__init__"))
/-- self.f = e, the error's first field -/
def tField (K : PySem.W.Frag) (f : Str) (to te : TE) : TS := fun D σ H => te σ H fun y H1 => to σ H1 fun x H2 => ∃ a C : Addr, x = .ref a ∧ ErrC K C ∧ PySem.W.findIn K (.ref C) f = some none ∧ H2 a = some (exo a C none) ∧
  ∀ dx, H2 dx = none → dx ≠ a → D.nx σ (upd (upd H2 dx (exd dx [(f, y)])) a (exo a C (some dx)))
/-- Base.__init__(self, ..) -/
def tBaseInit (K : PySem.W.Frag) (ta : TA) : TE := fun σ H Q => ta σ H fun vs H1 => ∃ (a C : Addr) (ws : List V), vs = .ref a :: ws ∧ ws.length ≤ 1000 ∧ ErrC K C ∧ H1 a = some (exo a C none) ∧ Q .non H1
/-- C(e, ..), C's own __init__ keeping sp -/
def tErr (C : Addr) (sp : Sp) (ta : TA) : St → Hp → XK → Prop := fun σ H Q => ta σ H fun vs H1 => vs.length ≤ 1000 ∧ ∀ a, H1 a = none → sp (.ref a :: vs) (upd H1 a (exo a C none))
  (fun v H2 => v = .non ∧ ∃ (d : Addr) (fs : List (Str × V)), H2 a = some (exo a C (some d)) ∧ H2 d = some (exd d fs) ∧ H1 d = none ∧ Q (.ref C) (some d) (upd (del H2 a) d (.xd fs))) (fun _ _ _ => False)
section
variable {X : Cx} {pins : List (Addr × Obj)} {σ : St} {H : Hp} {s : Shared} {a C : Addr}
theorem ErrC.data (T : ErrC X.K C) : ∃ cd, PySem.W.clsIn X.K C = some cd ∧ PySem.OwnErr.Line cd.mro ∧ cd.hasDict = true := by
  obtain ⟨nm, q, N, bs, bm, sn, sub, ab, col, dd, k0, k1, k2, k3, k5, hC, hl⟩ := T.cls
  refine ⟨{ name := nm, bases := bs, mro := .ref C :: bm, ns := N, qualname := q, hasDict := true, slotNames := sn, subclasses := sub, abstract := ab, collection := col, hasDel := false }, ?_, hl.cons, rfl⟩
  unfold PySem.W.clsIn
  rw [hC] <;> rfl
theorem field_first {f : Str} {y : V} {u : Value} {Q : Unit → Shared → Prop} {E : Value → Shared → Prop} {A : Around} (T : ErrC X.K C) (I : Inv X pins σ H s) (ea : H a = some (exo a C none)) (no : PySem.W.findIn X.K (.ref C) f = some none) (ry : RelV y u)
    (go : ∀ dx s2, H dx = none → dx ≠ a → Inv X pins σ (upd (upd H dx (exd dx [(f, y)])) a (exo a C (some dx))) s2 → Q () s2) : wpAny (model X.prog X.w) A (setAttr (.ref a) f u) Q E s := by
  obtain ⟨cd, hcd, hl, hd⟩ := T.data
  obtain ⟨t1, ho⟩ := exo_at I.hok ea
  obtain ⟨hp, g, dr, t, os⟩ := s
  refine PySem.W.set_plain I.kIn (ox := { cls := .ref C, dict := none, data := .fields #[.ref t1, .none, .none, .none, .bool false, .none] }) (od := none) ⟨ho, rfl, rfl, trivial⟩ T.sa ?_
  refine PySem.OwnErr.first_field I.kIn ho hcd hl hd no (fun h2 t2 dx keep new ne hx hn => ?_)
  have fresh : H dx = none := I.hok.fresh new
  have neD : ∀ {b : Addr} {o : Obj}, hp.get? b = some o → b ≠ dx := fun q => Nat.ne_of_lt (Nat.lt_of_lt_of_le (Heap.lt_size q) new)
  have neA : ∀ {b : Addr}, H b = none → b ≠ a := fun n z => by
    rw [z, ea] at n
    cases n
  have un : Un X.fs [] H (upd (upd H dx (exd dx [(f, y)])) a (exo a C (some dx))) hp h2 :=
    { keep := fun b o q n _ _ => keep b o (neA n) q
      slot := fun b o q n _ _ => ⟨o.slots, keep b o (neA n) q⟩
      free := fun b o q n _ => (upd_ne (neA n)).trans ((upd_ne (neD q)).trans n)
      there := fun b o q _ => by
        by_cases hb : b = a
        · exact ⟨_, hb.symm ▸ hx⟩
        · exact ⟨o, keep b o hb q⟩
      tups := fun b xs q => (upd_ne (at_ne ea q exo_tup)).trans ((upd_ne (ne_of_none q fresh)).trans q)
      frzs := fun b o v q => (upd_ne (at_ne ea q exo_frz)).trans ((upd_ne (ne_of_none q fresh)).trans q)
      tbls := fun b ps q => ⟨#[], ((upd_ne (at_ne ea q exo_tbl)).trans ((upd_ne (ne_of_none q fresh)).trans q)).trans (by simp)⟩ }
  refine go dx _ fresh ne (I.un (t' := t2) un fun b o q => ?_)
  by_cases hb : b = a
  · subst hb
    rw [upd_same] at q
    cases q
    exact exo_ok hx
  · rw [upd_ne hb] at q
    by_cases hd : b = dx
    · subst hd
      rw [upd_same] at q
      cases q
      exact exd_ok hn (relO_put (fs := []) ry fun _ => True.intro)
    · rw [upd_ne hd] at q
      refine (I.hok b o q).stay (fun c v hc z => keep c v ?_ z) (fun c hc => ?_) (fun c xs hc => ?_)
      · exact hc.elim (fun e => by rw [e]; exact hb) fun e => at_ne ea e exo_own
      · exact (upd_ne (at_ne ea hc exo_own)).trans ((upd_ne (ne_of_none hc fresh)).trans hc)
      · exact (upd_ne (at_ne ea hc exo_tup)).trans ((upd_ne (ne_of_none hc fresh)).trans hc)
theorem base_init {us : List Value} {Q : Value → Shared → Prop} {E : Value → Shared → Prop} {A : Around} (T : ErrC X.K C) (I : Inv X pins σ H s) (ea : H a = some (exo a C none)) (hl : us.length ≤ sizeLine) (go : ∀ s2, Inv X pins σ H s2 → Q .none s2) :
    wpAny (model X.prog X.w) A (call (.builtin "Exception.__init__") (.ref a :: us)) Q E s := by
  obtain ⟨nm, q, N, bs, bm, sn, sub, ab, col, dd, k0, k1, k2, k3, k5, hC, hline⟩ := T.cls
  obtain ⟨t1, ho⟩ := exo_at I.hok ea
  obtain ⟨hp, g, dr, t, os⟩ := s
  refine wpAny_call (PySem.HandSPX.init_base F.excBase_Exception (fun T => hline.has T) (I.kIn _ _ hC) ho hl fun h2 t2 keep hx => ?_)
  have eq : upd H a (exo a C none) = H := funext fun b => by
    by_cases hb : b = a
    · rw [hb, upd_same, ea]
    · rw [upd_ne hb]
  have J := I.write (t' := t) (x := a) (e := a) (o := exo a C none) (by rw [ea]; exact True.intro) (.inl rfl) keep ⟨_, hx⟩ (exo_ok hx)
  exact go _ (eq ▸ J)
end
section
variable {X : Cx} {o e : Expr} {es : List Expr} {to te : TE} {ta : TA} {f : Str} {p p' p1 p2 pos : Pos}
theorem ps_field (ho : PE X o to) (he : PE X e te) (hs : swapsWith e (some (.Attribute o f p')) pos.line X.env = pure false := by rfl) : PS X (.Assign [.Attribute o f p'] e pos) (tField X.K f to te) :=
  ⟨fun pins s σ H D I h => plainObj_wpAny_Assign_Attribute (thn (he.run pins s σ H _ I h) fun _ s1 ⟨y, H1, I1, r1, q1⟩ => thn (ho.run pins s1 σ H1 _ I1 q1) fun u s2 ⟨x, H2, I2, r2, a, C, ex, T, no, ea, q⟩ => by
    subst ex
    obtain rfl : u = Value.ref a := r2
    exact field_first T I2 ea no r1 fun dx s3 n ne J => ⟨σ, _, J, q dx n ne⟩) hs⟩
theorem pe_base {x : Str} {B : Addr} {pl : Sem Bool} (T : BaseC X.K B) (hg : Gl X x) (hm : X.mg x = some (.ref B)) (ha : PA X (e :: es) ta)
    (hc : eval (.Call (.Attribute (.Name x p1) "__init__" p2) (e :: es) [] pos) X.env = (do
      let ov ← eval (.Name x p1) X.env
      standAt p2.atName
      let (f, first) ← holding [ov] (getMethod ov "__init__" pl)
      callWith pos f first (backTo pos (starEach (e :: es) X.env)) (backToKw pos (keywordEach [] X.env))) := by rfl)
    (hdb : (x == ("__debug__" : Str)) = false := by decide) (he : starEach (e :: es) X.env = (false, eval e X.env) :: starEach es X.env := by rfl) (hpl : (backTo pos (starEach es X.env)).any (·.1) = false := by rfl) :
    PE X (.Call (.Attribute (.Name x p1) "__init__" p2) (e :: es) [] pos) (tBaseInit X.K ta) := by
  refine ⟨fun pins s σ H Q I h => ?_⟩
  refine PySem.W.methodCall_KW (ld_glob I hg hm ?_ hdb) hc
  refine PySem.W.method_cls I.kIn T.ga (PySem.W.cls_value I.kIn T.rd T.ini (by decide +kernel) ?_)
  show wpAny _ _ (callWith pos (Value.builtin "Exception.__init__") [] (backTo pos (starEach (e :: es) X.env)) []) _ _ _
  refine PyProof.Rows.callWith_method1 (thn (ha.run pos pins _ σ H _ (I.tok _) h) fun us s1 ⟨vs, H1, I1, r1, a, C, ws, ev, hl, TC, ea, q⟩ => ?_) he hpl
  subst ev
  cases r1 with
  | @cons _ u0 _ ur ra rr =>
    obtain rfl : u0 = Value.ref a := ra
    exact base_init TC I1 ea (by rw [← Paired.length rr, sizeLine_eq]; omega) fun s2 J => ⟨.non, H1, J, rfl, q⟩
theorem pmk_err {CX : CXT} {x : Str} {C fI : Addr} {k : Nat} {fd : FuncData} {ps : List Str} {sp : Sp} (T : ErrC X.K C) (iC : PySem.W.findIn X.K (.ref C) "__init__" = some (some (.ref fI))) (tI : PySem.W.typeIn X.K (.ref fI) = some (.type "function"))
    (G : FnOk X.prog X.w X.K X.mg X.base CX k fI fd ps sp) (hr : Room (k + 1) X.A) (hb : Binds X.K fd ps []) (hx : Passes CX X (fun _ _ _ => False)) (hg : Gl X x) (hm : X.mg x = some (.ref C)) (ha : PA X (e :: es) ta)
    (hdb : (x == ("__debug__" : Str)) = false := by decide) (he : starEach (e :: es) X.env = (false, eval e X.env) :: starEach es X.env := by rfl) (hpl : (backTo pos (starEach es X.env)).any (·.1) = false := by rfl) :
    L2N.PMk X (.Call (.Name x p) (e :: es) [] pos) (tErr C sp ta) := by
  intro pins s σ H Q I h
  obtain ⟨nm, q, N, bs, bm, sn, sub, ab, col, dd, k0, k1, k2, k3, k5, hC, hline⟩ := T.cls
  refine wpAny_Call_Name_kw (ld_glob I hg hm ?_ hdb)
  refine PySem.W.callWith_K (h₀ := X.base) I.ok.mod.kin T.kC (thn (ha.run pos pins s σ H _ I h) fun us s1 ⟨vs, H1, I1, r1, hz, q1⟩ => ⟨I1.kIn, ?_⟩) he hpl
  show wpAny _ _ (call (.ref C) us) _ _ _
  obtain ⟨hp, g, dr, tk, os⟩ := s1
  have big : hp.objs.size ≤ hp.objs.size + 1 := Nat.le_succ _
  have keep : ∀ b o, hp.get? b = some o → ((hp.push (PySem.W.kdv_tup us)).push (PySem.HandSPX.excO C hp.objs.size)).get? b = some o := fun _ _ z => Heap.get?_push_of_some _ (Heap.get?_push_of_some _ z)
  have made : ((hp.push (PySem.W.kdv_tup us)).push (PySem.HandSPX.excO C hp.objs.size)).get? (hp.objs.size + 1) = some (PySem.HandSPX.excO C hp.objs.size) := by heap_get
  have hq := q1 (hp.objs.size + 1) (I1.hok.fresh big)
  have I2 := I1.laid (t' := tk) (a := hp.objs.size + 1) (o := exo (hp.objs.size + 1) C none) (h' := (hp.push (PySem.W.kdv_tup us)).push (PySem.HandSPX.excO C hp.objs.size)) keep big (exo_ok made)
  have r2 : Vals (V.ref (hp.objs.size + 1) :: vs) (Value.ref (hp.objs.size + 1) :: us) := .cons rfl r1
  have len : (Value.ref (hp.objs.size + 1) :: us).length = ps.length := r2.length.symm.trans (G.len _ _ _ _ hq)
  have few : us.length ≤ sizeLine := by
    rw [← Paired.length r1, sizeLine_eq]
    omega
  have bind := hb _ (Value.ref (hp.objs.size + 1) :: us) I2.kIn (by simpa using len)
  refine wpAny_call (PySem.HandSPX.call_own F.excBase_Exception (fun T => hline.has T) (I1.kIn _ _ hC) (PySem.W.looks_findIn I1.kIn iC) (fun me => PySem.W.bind_fn I1.kIn me tI) few
    (codeAny_mono (G.run _ X.stack _ _ ⟨Value.ref (hp.objs.size + 1) :: us, []⟩ (Value.ref (hp.objs.size + 1) :: us) _ _ (fun _ _ _ => False) (hr.make C us []) (I2.env0.make C us []) (by simpa using bind) r2 hq) fun r s2 hs2 => ?_))
  match r, hs2 with
  | .error er, z => exact hx pins σ _ _ er s2 I2 z
  | .ok (.ret u), ⟨v, H2, os2, bare2, un2, hok2, rv, ev, d, fs, ea, ed, hd1, q2⟩ =>
    subst ev
    obtain ⟨h2, g2, d2, t2, os'⟩ := s2
    obtain ⟨t0, G2, J, keepG, gone, there, na⟩ := mk_end0 (d2 := d2) (t2 := t2) I1 big keep un2 hok2 os2 bare2 ea ed hd1
    exact ⟨rv, _, _, _, ⟨G2, g2, d2, t2, os'⟩, _, .ref C, some d, rfl, J, keepG, gone, there, ⟨rfl, rfl, fun vs e => by cases e; rfl⟩, rfl, rfl, na, rfl, bare2, raises_own T.exC T.tyC, q2⟩
  | .ok .next, z => exact z.elim
  | .ok .brk, z => exact z.elim
  | .ok .cont, z => exact z.elim
end
end L2

set_option Elab.async false
set_option linter.all false
set_option maxRecDepth 100000
set_option maxHeartbeats 4000000
/-! try: .. except A as e: .. except B as e: ..: several clauses, one name. -/
namespace L2
open PySem PySem.Spec PyProof.Rows
/-- behind a suite the name's slot is empty -/
def Ends.gone (D : Ends) (i : Nat) : Ends := { nx := fun σ H => D.nx (σ.set i none) H, rt := D.rt, bk := fun σ H => D.bk (σ.set i none) H, ct := fun σ H => D.ct (σ.set i none) H }
/-- what the clauses wish, one behind the other -/
def wEach (K : PySem.W.Frag) (i : Nat) (Wout : WX) (D : Ends) : List (Value × (Addr → Value → Option Addr → TS)) → WX
  | [] => Wout
  | (c, ts) :: more => fun cls d σ H => ∃ b, PySem.W.exmOne K cls c = some b ∧ (b = true → ∀ a, H a = none → ts a cls d (D.gone i) (σ.set i (some (.ref a))) H) ∧ (b = false → wEach K i Wout D more cls d σ H)
inductive Clauses (X : Cx) (n : Str) : List ExceptHandler → List (Value × (Addr → Value → Option Addr → TS)) → Prop
  | nil : Clauses X n [] []
  | cons {x : Str} {c : Value} {ts : Addr → Value → Option Addr → TS} {first : Stmt} {suite : List Stmt} {np hp : Pos} {more : List ExceptHandler} {l : List (Value × (Addr → Value → Option Addr → TS))} (hc : Names X x c)
      (hs : ∀ (a : Addr) (oe : Obj) (cls : Value) (d : Option Addr) (pn : List (Addr × Obj)), L2N.Zn cls d oe → (∃ vs, oe.data = .fields vs) → PSs (X.suite a ((a, oe) :: pn)) (first :: suite) (ts a cls d)) (r : Clauses X n more l) :
      Clauses X n (.ExceptHandler (some (.Name x np)) (some n) (first :: suite) hp :: more) ((c, ts) :: l)
section
variable {X : Cx} {n : Str} {i : Nat} {body : List Stmt} {h₁ : ExceptHandler} {hs₁ : List ExceptHandler} {l : List (Value × (Addr → Value → Option Addr → TS))} {pos : Pos} {tb : WX → TS} {Wout : WX}
theorem SP.untry {pins : List (Addr × Obj)} {xe : Value → Shared → Prop} {D : Ends} {f : Flow} {s : Shared} (ok : X.Ok) (h : SP (X.tr (X.pn ++ pins) xe) [] D f s) : SP X pins D f s :=
  match f, h with
  | .next, ⟨σ, H, J, q⟩ => ⟨σ, H, J.ofTry ok, q⟩
  | .brk, ⟨σ, H, J, q⟩ => ⟨σ, H, J.ofTry ok, q⟩
  | .cont, ⟨σ, H, J, q⟩ => ⟨σ, H, J.ofTry ok, q⟩
  | .ret _, ⟨v, σ, H, J, r, q⟩ => ⟨v, σ, H, J.ofTry ok, r, q⟩
theorem ps_try_each (st : X.stack = X.env :: X.outer) (fr : X.env.frame = some X.env.locals) (nd : X.N.Nodup) (hi : X.N[i]? = some n) (lo : X.env.kindOf n = some .local) (tk : L2N.Takes X Wout)
    (hb : ∀ (W : WX) (pn : List (Addr × Obj)) (xe : Value → Shared → Prop), L2N.Takes (X.tr pn xe) W → PassesOwn (model X.prog X.w) X.A X.env xe → PSs (X.tr pn xe) body (tb W))
    (hh : Clauses X n (h₁ :: hs₁) l) : PS X (.Try body (h₁ :: hs₁) [] [] pos) (fun D σ H => tb (wEach X.K i Wout D l) D σ H) := by
  refine ⟨fun pins s σ H D I h => ?_⟩
  have ok := I.ok
  have frs_ : X.A.frames = some (X.env :: X.outer) := by rw [ok.frames, st]
  refine wpAny_Try_except ?_
  refine wpAny_mono ((hb (wEach X.K i Wout D l) (X.pn ++ pins) (fun e sa => wpAny (model X.prog X.w) X.A (noteFrame e X.env) (fun _ sb => wpAny (model X.prog X.w) X.A (setFlight e none) (fun _ sc =>
    wpAny (model X.prog X.w) X.A (handleBy e X.env (h₁ :: hs₁)) (SP X pins D) X.xe sc) X.xe sb) X.xe sa) (fun u s2 hu => ?_) PassesOwn.looking).run [] s σ H D (I.toTry _) h) (fun f s2 hf => ?_) (fun _ _ z => z)
  · obtain ⟨a, B, sI, pins2, σ2, H2, cls, d, rfl, J0, nb, up, sky, na, os, ag, wish⟩ := hu
    have J : Inv X pins σ2 H2 sI := J0.ofTry ok
    show wpAny (model X.prog X.w) X.A (noteFrame (.ref a) X.env) _ _ _
    refine L2N.Sky.land L2N.Zn.steady frs_ fr (by rw [← st]; exact sky) fun h3 fl3 up3 => ?_
    have J3 : Inv X pins σ2 H2 { s2 with heap := h3 } := J.landed nb fl3.1 (up.trans up3) os ag
    obtain ⟨oe3, vs3, he3, hz3, hd3⟩ := fl3.there
    -- the error is no frame
    have out : a ∉ frs (X.env :: X.outer) := fun hm => by
      obtain ⟨_, o, ho, hnf⟩ := fl3.2.2.1.mem hm
      rw [he3] at ho
      cases ho
      exact hnf _ hd3
    have nL : a ≠ X.env.locals := fun z => out (List.mem_filterMap.mpr ⟨X.env, List.mem_cons_self, by rw [fr, z]⟩)
    have nF : a ∉ X.fs := fun hm => by
      obtain ⟨ev, he, q⟩ := List.mem_filterMap.mp hm
      exact out (List.mem_filterMap.mpr ⟨ev, List.mem_cons_of_mem _ he, q⟩)
    have S3 := J3.suite he3 hd3 na nL nF
    have go : ∀ {hs2 : List ExceptHandler} {l2 : List (Value × (Addr → Value → Option Addr → TS))}, Clauses X n hs2 l2 → wEach X.K i Wout D l2 cls d σ2 H2 →
        wpAny (model X.prog X.w) X.A (handleBy (.ref a) X.env hs2) (SP X pins D) X.xe { s2 with heap := h3 } := by
      intro hs2 l2 hk
      induction hk with
      | nil =>
        intro wish2
        refine wpAny_handleBy_nil ?_
        obtain ⟨_, _, _, oe, vs, T, oT, ts2, he, hz, hd, h1, _⟩ := id fl3
        unfold PySem.passOn
        refine wpAny_bind (wpAny_field he hd h1 ?_)
        rw [if_neg (show ¬ ((Value.ref T == Value.none) = true) from by simp)]
        have last : wpAny (model X.prog X.w) X.A (setFlight (.ref a) X.env.frame) (fun _ s5 => wpAny (model X.prog X.w) X.A (throw (.ref a) : Sem Flow) (SP X pins D) X.xe s5) X.xe { s2 with heap := h3 } := by
          rw [fr]
          exact HandSPX.setFlight_upZ fl3 fun h4 hh4 up4 => wpAny_throw (tk _ _ ⟨a, B, sI, pins, σ2, H2, cls, d, rfl, J, nb, (up.trans up3).trans up4, .inr (.inr (by rw [st]; exact hh4)), na, os, ag, wish2⟩)
        first
          | exact wpAny_bind (wpAny_pure (wpAny_bind last))
          | exact wpAny_bind last
      | @cons x c ts first suite np hp more l2 hc hsu r ih =>
        intro wish2
        obtain ⟨b, hb1, yes, no⟩ := wish2
        refine wpAny_handleBy_cons (codeAny_handlers_test ?_) (by intro q; cases q)
        have ty : PySem.W.Looks (model X.prog X.w) h3 (typeOf (.ref a)) cls := fun A Q E s k q => wpAny_typeOf_ref (k _ _ he3) (by rw [hz3.1]; exact q)
        have LM := PySem.W.exm_one (M := model X.prog X.w) J3.kIn ty hb1
        have test : ∀ {Q : Value → Shared → Prop} {E : Value → Shared → Prop}, Q c { s2 with heap := h3 } → wpAny (model X.prog X.w) (X.A.mark (some (.ref a))) (eval (.Name x np) X.env) Q E { s2 with heap := h3 } := fun {Q E} q =>
          match hc with
          | ⟨hg, hdbg, .inl hm⟩ => ld_glob (X := X.suite a ((a, oe3) :: (X.pn ++ pins))) S3 hg hm q hdbg
          | ⟨hg, hdbg, .inr ⟨hm, hv, hnn⟩⟩ => ld_blt (X := X.suite a ((a, oe3) :: (X.pn ++ pins))) S3 hg hm hv q hnn hdbg
        refine test (LM.here ?_)
        cases b with
        | false =>
          show wpAny _ X.A (handleBy (.ref a) X.env more) _ _ _
          exact ih (no rfl)
        | true =>
          refine codeAny_handlers_suite_as ?_
          refine HandSPX.lands_againZ fl3 fun h4 fl4 up4 => ?_
          have J4 : Inv X pins σ2 H2 { s2 with heap := h4 } := J.landed nb fl4.1 ((up.trans up3).trans up4) os ag
          obtain ⟨oe4, vs4, he4, hz4, hd4⟩ := fl4.there
          refine store_ok (X := X.suite a ((a, oe4) :: (X.pn ++ pins))) (v := .ref a) (J4.suite he4 hd4 na nL nF) nd hi (.inl lo) rfl (fun s5 S5 => ?_) (.inr lo)
          refine wpAny_mono ((hsu a oe4 cls d (X.pn ++ pins) hz4 ⟨_, hd4⟩).run [] s5 _ H2 _ S5 (yes rfl a na)) (fun f s6 hf => ?_) (fun _ _ z => z.elim)
          have fin : ∀ {σ6 : St} {H6 : Hp} {Q : Shared → Prop}, Inv (X.suite a ((a, oe4) :: (X.pn ++ pins))) [] σ6 H6 s6 → (∀ s7, Inv X pins (σ6.set i none) H6 s7 → Q s7) →
              wpAny (model X.prog X.w) X.A (do bindName X.env n .none; unbindBehindTheSuite X.env n hp) (fun _ s7 => Q s7) X.xe s6 := fun S6 hq => gone_ok (S6.unsuite ok) nd hi lo hq
          match f, hf with
          | .next, ⟨σ6, H6, S6, q6⟩ => exact fin S6 fun s7 J7 => ⟨_, _, J7, q6⟩
          | .brk, ⟨σ6, H6, S6, q6⟩ => exact fin S6 fun s7 J7 => ⟨_, _, J7, q6⟩
          | .cont, ⟨σ6, H6, S6, q6⟩ => exact fin S6 fun s7 J7 => ⟨_, _, J7, q6⟩
          | .ret u, ⟨v6, σ6, H6, S6, r6, q6⟩ => exact fin S6 fun s7 J7 => ⟨_, _, _, J7, r6, q6⟩
    exact go hh wish
  · have z := SP.untry ok hf
    cases f with
    | next => exact wpAny_execs_nil z
    | brk => exact z
    | cont => exact z
    | ret u => exact z
end
/-- what a class says, so that isinstance asks its instances rightly -/
structure AskC (K : PySem.W.Frag) (C : Addr) : Prop where
  cl : (PySem.W.clsIn K C).isSome = true
  ga : PySem.W.findIn K (.ref C) "__getattribute__" = some (some (.builtin "BaseException.__getattribute__"))
  gg : PySem.W.findIn K (.ref C) "__getattr__" = some none
  exC : PySem.W.subIn K (.ref C) (.type "BaseException") = some true
  cls : PySem.W.findIn K (.ref C) "__class__" = some (some (.builtin "object.__class__"))
  get : PySem.W.specialIn K (.builtin "object.__class__") "__get__" = some (some (.builtin "getset_descriptor.__get__"))
  tak : PySem.W.takesIn K (.builtin "object.__class__") = some true
  obj : PySem.W.mroIn K C (.type "object") = some true
/-- isinstance(e, c), e the error at a of the class cls -/
def rErrIs (K : PySem.W.Frag) (cls : Value) (a : Addr) (d : Option Addr) : List V → Hp → VK → Prop := fun xs H Q => ∃ (C : Addr) (c : V) (cv : Value) (b : Bool), cls = .ref C ∧ AskC K C ∧ xs = [.ref a, c] ∧ ClsV c cv ∧ (∀ dd, d = some dd → ∃ fs, H dd = some (.xd fs)) ∧ PySem.W.kitOne K cls cv = some b ∧ Q (.bl b) H
/-- isinstance(e, (c, ..)) -/
def rErrIsT (K : PySem.W.Frag) (cls : Value) (a : Addr) (d : Option Addr) : List V → Hp → VK → Prop := fun xs H Q => ∃ (C tp : Addr) (cs : List V) (us : List Value) (b : Bool), cls = .ref C ∧ AskC K C ∧ xs = [.ref a, .ref tp] ∧ H tp = some (.tup cs) ∧ Paired ClsV cs us ∧ (∀ dd, d = some dd → ∃ fs, H dd = some (.xd fs)) ∧ PySem.W.kitAny K cls us = some b ∧ Q (.bl b) H
section
variable {X : Cx} {a C : Addr} {cls : Value} {oe : Obj} {d : Option Addr} {pn : List (Addr × Obj)}
theorem err_inst {pins : List (Addr × Obj)} {σ : St} {H : Hp} {s : Shared} (I : Inv (X.suite a ((a, oe) :: pn)) pins σ H s) (hz : Zc (.ref C) d oe) (hf : ∃ vs, oe.data = .fields vs) (hd : ∀ dd, d = some dd → ∃ fs, H dd = some (.xd fs)) : ∃ od, PySem.W.InstAt s.heap a oe C od := by
  obtain ⟨hget, _⟩ := I.pin (a, oe) (List.mem_append_left _ List.mem_cons_self)
  obtain ⟨vs, hv⟩ := hf
  have nc : PySem.W.notCls oe = true := by unfold PySem.W.notCls; rw [hv] <;> rfl
  cases d with
  | none => exact ⟨none, hget, hz.1, nc, by rw [hz.2]; trivial⟩
  | some dd =>
    obtain ⟨fs, e⟩ := hd dd rfl
    obtain ⟨mA, ⟨o, _, _, ho, _⟩, _⟩ := (show ObjOk X.prog X.w H s.heap dd (.xd fs) from I.hok dd _ e)
    exact ⟨some o, hget, hz.1, nc, by rw [hz.2]; exact ho⟩
theorem call_errIs (hz : Zc cls d oe) (hf : ∃ vs, oe.data = .fields vs) : CallR (X.suite a ((a, oe) :: pn)) (.builtin "isinstance") (rErrIs X.K cls a d) := by
  intro pins s σ H xs us Q I r h
  obtain ⟨C, c, cv, b, rfl, T, rfl, hc, hd, e, q⟩ := h
  obtain ⟨u1, u2, rfl, r1, r2⟩ := vals2 r
  cases (show u1 = Value.ref a from r1)
  cases hc.eq r2
  obtain ⟨od, J⟩ := err_inst I hz hf hd
  exact PySem.W.kia_one (PySem.W.kitx_exc T.cl T.ga T.gg T.exC T.cls T.get T.tak T.obj) I.kIn J e (fun z => nomatch z) fun tk => ⟨.bl b, H, I.tok tk, rfl, q⟩
theorem call_errIsT (hz : Zc cls d oe) (hf : ∃ vs, oe.data = .fields vs) : CallR (X.suite a ((a, oe) :: pn)) (.builtin "isinstance") (rErrIsT X.K cls a d) := by
  intro pins s σ H xs us Q I r h
  obtain ⟨C, tp, cs, ws, b, rfl, T, rfl, hT, k, hd, e, q⟩ := h
  obtain ⟨u1, u2, rfl, r1, r2⟩ := vals2 r
  cases (show u1 = Value.ref a from r1)
  cases (show u2 = Value.ref tp from r2)
  obtain ⟨od, J⟩ := err_inst I hz hf hd
  obtain ⟨_, its, rv, o, h1, h2, m, h3⟩ := (show ObjOk X.prog X.w H s.heap tp (.tup cs) from I.hok tp _ hT)
  cases ClsV.all k rv
  obtain ⟨oc, od2, dt, sl⟩ := o
  simp only at h2 h3
  subst h2 h3
  exact PySem.W.kia_tup (PySem.W.kitx_exc T.cl T.ga T.gg T.exC T.cls T.get T.tak T.obj) I.kIn J h1 e (fun z => nomatch z) fun tk => ⟨.bl b, H, I.tok tk, rfl, q⟩
end
end L2

set_option Elab.async false
set_option linter.all false
set_option maxRecDepth 100000
set_option maxHeartbeats 4000000
/-! Dicts whose keys are tuples of any depth (nested keys), for the hand layer. Speaks of no program. -/
namespace K1D
open PySem PySem.Spec PyProof.Rows L2

/-! ### keys that stand -/
mutual
inductive KeyV (K : PySem.W.Frag) (H : Hp) : NestedKey → V → Prop
  | non : KeyV K H .none .non
  | int (i : Int) : KeyV K H (.num i) (.int i)
  | str (x : Str) : KeyV K H (.text x) (.str x)
  | tup {a : Addr} {xs : List V} {ks : List NestedKey} : H a = some (.tup xs) → KeyVs K H ks xs → KeyV K H (.tup ks) (.ref a)
inductive KeyVs (K : PySem.W.Frag) (H : Hp) : List NestedKey → List V → Prop
  | nil : KeyVs K H [] []
  | cons {k : NestedKey} {v : V} {ks : List NestedKey} {vs : List V} : KeyV K H k v → KeyVs K H ks vs → KeyVs K H (k :: ks) (v :: vs)
end
section
variable {K : PySem.W.Frag} {H H' : Hp}
/-- what stands in both: tuples -/
def Tups (K : PySem.W.Frag) (H H' : Hp) : Prop := ∀ a xs, H a = some (.tup xs) → H' a = some (.tup xs)
mutual
theorem KeyV.up (t : Tups K H H') : ∀ (k : NestedKey) (v : V), KeyV K H k v → KeyV K H' k v
  | .none, _, h => by cases h; exact .non
  | .num i, _, h => by cases h; exact .int i
  | .text x, _, h => by cases h; exact .str x
  | .tup ks, _, h => by
    cases h with
    | tup h1 h2 => exact .tup (t _ _ h1) (KeyVs.up t ks _ h2)
theorem KeyVs.up (t : Tups K H H') : ∀ (ks : List NestedKey) (vs : List V), KeyVs K H ks vs → KeyVs K H' ks vs
  | [], _, h => by cases h; exact .nil
  | k :: ks, _, h => by
    cases h with
    | cons h1 h2 => exact .cons (KeyV.up t k _ h1) (KeyVs.up t ks _ h2)
end
mutual
/-- .. is data -/
theorem KeyV.dp : ∀ (k : NestedKey) (v : V), KeyV K H k v → Dp K H v k.data
  | .none, _, h => by cases h; exact .non
  | .num i, _, h => by cases h; exact .int i
  | .text x, _, h => by cases h; exact .str x
  | .tup ks, _, h => by
    cases h with
    | tup h1 h2 => exact .tup (SqT.of h1) (KeyVs.dp ks _ h2)
theorem KeyVs.dp : ∀ (ks : List NestedKey) (vs : List V), KeyVs K H ks vs → DpAll K H vs (NestedKey.datas ks)
  | [], _, h => by cases h; exact .nil
  | k :: ks, _, h => by
    cases h with
    | cons h1 h2 => exact .cons (KeyV.dp k _ h1) (KeyVs.dp ks _ h2)
end
end
section
variable {X : Cx} {pins : List (Addr × Obj)} {σ : L2.St} {H : Hp} {s : Shared}
mutual
theorem KeyV.is (I : Inv X pins σ H s) : ∀ (k : NestedKey) (v : V) (u : Value), KeyV X.K H k v → RelV v u → NestedIs s.heap k u
  | .none, _, _, h, r => by cases h; cases r; exact .none
  | .num i, _, _, h, r => by
    cases h
    obtain ⟨t, rfl⟩ := r
    exact .int i t
  | .text x, _, _, h, r => by
    cases h
    obtain ⟨t, rfl⟩ := r
    exact .text x t
  | .tup ks, _, _, h, r => by
    cases h with
    | tup h1 h2 =>
      cases r
      obtain ⟨its, rv, ⟨o, ho, hc, n, hd⟩, _⟩ := I.tuple (SqT.of h1)
      exact .tup ho hc hd (KeyVs.is I ks _ _ h2 rv)
theorem KeyVs.is (I : Inv X pins σ H s) : ∀ (ks : List NestedKey) (vs : List V) (us : List Value), KeyVs X.K H ks vs → Vals vs us → NestedAll s.heap ks us
  | [], _, _, h, r => by cases h; cases r; exact .nil
  | k :: ks, _, _, h, r => by
    cases h with
    | cons h1 h2 =>
      cases r with
      | cons r1 r2 => exact .cons (KeyV.is I k _ _ h1 r1) (KeyVs.is I ks _ _ h2 r2)
end
end

/-! ### the dict -/
/-- an entry: its key, where the key stands, its value -/
abbrev NE := NestedKey × Addr × V
abbrev NR : List NE → List (NestedKey × Addr × Value) → Prop := Paired fun (p : NE) q => p.1 = q.1 ∧ p.2.1 = q.2.1 ∧ RelV p.2.2 q.2.2
def entN (w : World) (x : NestedKey × Addr × Value) : DictEntry := ⟨x.1.hash w, .ref x.2.1, x.2.2⟩
def NIn (w : World) (d : Addr) (kvs : List NE) (h : Heap) : Prop :=
  kvs.length ≤ sizeLine ∧ (d == sysModules) = false ∧ ∃ xs : List (NestedKey × Addr × Value), NR kvs xs ∧ ∃ o es ep, h.get? d = some o ∧ o.ExactDict ∧ o.data = .dict es ep ∧ es.toList = xs.map (entN w) ∧ (xs.map (·.1)).Nodup
def dN (w : World) (d : Addr) (kvs : List NE) : HO := .ext (NIn w d kvs)
/-- all its keys stand -/
def KeysN (K : PySem.W.Frag) (H : Hp) (kvs : List NE) : Prop := ∀ x ∈ kvs, KeyV K H x.1 (.ref x.2.1) ∧ x.1.depth ≤ 8
theorem KeysN.up {K : PySem.W.Frag} {H H' : Hp} {kvs : List NE} (k : KeysN K H kvs) (t : Tups K H H') : KeysN K H' kvs := fun x hx => ⟨(k x hx).1.up t _ _, (k x hx).2⟩
theorem Tups.ext {K : PySem.W.Frag} {H H' : Hp} (e : ∀ a o, H a = some o → H' a = some o) : Tups K H H' := fun a xs h => e _ _ h
/-- an object that is no tuple is changed, or a new one laid -/
theorem Tups.put {K : PySem.W.Frag} {H : Hp} {a : Addr} {o : HO} (h : ∀ xs, ¬ Rd H a (.tup xs)) : Tups K H (upd H a o) := fun b xs q =>
  (upd_ne (fun z => h xs (.inl (by rw [← z]; exact q)))).trans q
theorem Tups.refl {K : PySem.W.Frag} {H : Hp} : Tups K H H := fun _ _ h => h
theorem Tups.trans {K : PySem.W.Frag} {H H1 H2 : Hp} (a : Tups K H H1) (b : Tups K H1 H2) : Tups K H H2 := fun p xs h => b p xs (a p xs h)
theorem not_tup_dN {H : Hp} {w : World} {d : Addr} {kvs : List NE} (h : H d = some (dN w d kvs)) : ∀ xs, ¬ Rd H d (.tup xs) := fun xs q => by
  rcases q with q | ⟨o, q⟩
  · rw [h] at q; cases q
  · rw [h] at q; cases q
theorem not_tup_none {H : Hp} {d : Addr} (h : H d = none) : ∀ xs, ¬ Rd H d (.tup xs) := fun xs q => by
  rcases q with q | ⟨o, q⟩
  · rw [h] at q; cases q
  · rw [h] at q; cases q

/-- the value at k -/
def valN (kvs : List NE) (k : NestedKey) : Option V := (kvs.find? fun x => decide (x.1 = k)).map (·.2.2)
/-- k's value made v; a new key at the end, standing at b -/
def putN (kvs : List NE) (k : NestedKey) (b : Addr) (v : V) : List NE :=
  if (valN kvs k).isSome then kvs.map fun x => if x.1 = k then (x.1, x.2.1, v) else x else kvs ++ [(k, b, v)]
def dropN (kvs : List NE) (k : NestedKey) : List NE := kvs.filter fun x => decide (x.1 ≠ k)
section
variable {w : World} {K : PySem.W.Frag} {H : Hp}
theorem NR.val {kvs : List NE} {xs : List (NestedKey × Addr × Value)} (r : NR kvs xs) (k : NestedKey) : RelO (valN kvs k) ((atKey xs k).map (·.2)) := by
  induction r with
  | nil => exact True.intro
  | @cons p q ps qs h t ih =>
    obtain ⟨h1, _, h2⟩ := h
    by_cases e : p.1 = k
    · have e' : q.1 = k := h1.symm.trans e
      have b : atKey (q :: qs) k = some q.2 := by simp [atKey, List.find?_cons, e']
      have c : valN (p :: ps) k = some p.2.2 := by simp [valN, List.find?_cons, e]
      rw [b, c]; exact h2
    · have e' : ¬ q.1 = k := fun z => e (h1.trans z)
      have b : atKey (q :: qs) k = atKey qs k := by simp [atKey, List.find?_cons, e']
      have c : valN (p :: ps) k = valN ps k := by simp [valN, List.find?_cons, e]
      rw [b, c]; exact ih
theorem NR.repl {kvs : List NE} {xs : List (NestedKey × Addr × Value)} (r : NR kvs xs) (k : NestedKey) {y : V} {u : Value} (ry : RelV y u) :
    NR (kvs.map fun x => if x.1 = k then (x.1, x.2.1, y) else x) (xs.map (putAt k u)) := by
  induction r with
  | nil => exact .nil
  | @cons p q ps qs h t ih =>
    rw [List.map_cons, List.map_cons]
    refine .cons ?_ ih
    obtain ⟨h1, h2, h3⟩ := h
    unfold putAt
    by_cases e : p.1 = k
    · rw [if_pos e, if_pos (h1.symm.trans e)]; exact ⟨h1, h2, ry⟩
    · rw [if_neg e, if_neg (fun z => e (h1.trans z))]; exact ⟨h1, h2, h3⟩
theorem NR.put {kvs : List NE} {xs : List (NestedKey × Addr × Value)} (r : NR kvs xs) (k : NestedKey) {b : Addr} {y : V} {u : Value} (ry : RelV y u) :
    NR (putN kvs k b y) (storedH xs k b u) := by
  have e : (valN kvs k).isSome = (atKey xs k).isSome := by
    rw [(r.val k).isSome_eq, Option.isSome_map]
  unfold putN storedH
  rw [e]
  by_cases q : (atKey xs k).isSome = true
  · rw [if_pos q, if_pos q]; exact r.repl k ry
  · rw [if_neg q, if_neg q]; exact Paired.snoc r ⟨rfl, rfl, ry⟩
theorem NR.drop {kvs : List NE} {xs : List (NestedKey × Addr × Value)} (r : NR kvs xs) (k : NestedKey) : NR (dropN kvs k) (withoutH xs k) := by
  induction r with
  | nil => exact .nil
  | @cons p q ps qs h t ih =>
    unfold dropN withoutH
    rw [List.filter_cons, List.filter_cons]
    by_cases e : p.1 = k
    · rw [if_neg (by simp [e]), if_neg (by simp [← h.1, e])]; exact ih
    · rw [if_pos (by simp [e]), if_pos (by simp [← h.1, e])]; exact .cons h ih
theorem length_putN (kvs : List NE) (k : NestedKey) (b : Addr) (v : V) : (putN kvs k b v).length ≤ kvs.length + 1 := by
  unfold putN
  split
  · rw [List.length_map]; omega
  · rw [List.length_append]; exact Nat.le_refl _
theorem length_dropN (kvs : List NE) (k : NestedKey) : (dropN kvs k).length ≤ kvs.length := List.length_filter_le _ _
theorem KeysN.put {kvs : List NE} {k : NestedKey} {b : Addr} {v : V} (h : KeysN K H kvs) (hk : KeyV K H k (.ref b)) (hd : k.depth ≤ 8) : KeysN K H (putN kvs k b v) := fun x hx => by
  unfold putN at hx
  split at hx
  · obtain ⟨y, hy, e⟩ := List.mem_map.mp hx
    split at e
    · subst e; exact h y hy
    · subst e; exact h y hy
  · rcases List.mem_append.mp hx with hx | hx
    · exact h x hx
    · rw [List.mem_singleton] at hx
      subst hx
      exact ⟨hk, hd⟩
theorem KeysN.drop {kvs : List NE} {k : NestedKey} (h : KeysN K H kvs) : KeysN K H (dropN kvs k) := fun x hx => h x (List.mem_filter.mp hx).1
end

section
variable {X : Cx} {pins : List (Addr × Obj)} {σ : L2.St} {H : Hp} {s : Shared} {d : Addr} {kvs : List NE}
theorem dn_ok {P : Program} {w : World} {H : Hp} {h : Heap} {d : Addr} {kvs : List NE} (x : NIn w d kvs h) : ObjOk P w H h d (dN w d kvs) :=
  ⟨x, let ⟨_, _, _, _, o, _, _, ho, _⟩ := x; ⟨o, ho⟩, fun h1 h2 x k => let ⟨z, y, xs, r, o, es, ep, ho, q⟩ := x; ⟨z, y, xs, r, o, es, ep, k o ho, q⟩⟩
/-- in the heap itself -/
theorem dn_rd (I : Inv X pins σ H s) (e : Rd H d (dN X.w d kvs)) (ks : KeysN X.K H kvs) : kvs.length ≤ sizeLine ∧ (d == sysModules) = false ∧
    ∃ xs, NR kvs xs ∧ s.heap.DictOfH (nestedKind X.prog X.w) d xs := by
  obtain ⟨⟨z, y, xs, r, o, es, ep, h1, h2, h3, h4, h5⟩, _, _⟩ := (show ObjOk X.prog X.w H s.heap d (dN X.w d kvs) from rd_of I.hok e)
  refine ⟨z, y, xs, r, o, es, ep, h1, h2, h3, h4, fun x hx => ?_, h5⟩
  have all : ∀ {l : List NE} {m : List (NestedKey × Addr × Value)}, NR l m → KeysN X.K H l → ∀ x ∈ m, (nestedKind X.prog X.w).is s.heap x.1 x.2.1 := by
    intro l m q
    induction q with
    | nil => intro _ x hx; exact nomatch hx
    | @cons p q ps qs hq t ih =>
      intro hl x hx
      rcases List.mem_cons.mp hx with e | hx
      · subst e
        obtain ⟨a, b⟩ := hl p (List.mem_cons_self ..)
        refine ⟨?_, by rw [← hq.1]; exact b⟩
        rw [← hq.1, ← hq.2.1]
        exact a.is I _ _ _ rfl
      · exact ih (fun y hy => hl y (List.mem_cons_of_mem _ hy)) x hx
  exact all r ks x hx
theorem NIn.of {P : Program} {w : World} {h : Heap} {d : Addr} {kvs : List NE} {xs : List (NestedKey × Addr × Value)} (z : kvs.length ≤ sizeLine) (y : (d == sysModules) = false) (r : NR kvs xs) (dd : h.DictOfH (nestedKind P w) d xs) : NIn w d kvs h := by
  obtain ⟨o, es, ep, h1, h2, h3, h4, _, h5⟩ := dd
  exact ⟨z, y, xs, r, o, es, ep, h1, h2, h3, h4, h5⟩
end

/-! ### what is done with it -/
section
variable {X : Cx} {pins : List (Addr × Obj)} {σ : L2.St} {H : Hp} {s : Shared} {a b : Addr} {kvs : List NE} {k : NestedKey} {v : V} {r : Value} {A : Around} {E : Value → Shared → Prop}
theorem nis (I : Inv X pins σ H s) (hk : KeyV X.K H k (.ref b)) (hd : k.depth ≤ 8) : (nestedKind X.prog X.w).is s.heap k b := ⟨hk.is I _ _ _ rfl, hd⟩
theorem nroom {P : Program} {w : World} (hu : A.units + 9 < cLine) : (nestedKind P w).room A.in1 := show A.in1.units + 8 < cLine by rw [Around.in1_units]; omega
theorem nroom0 {P : Program} {w : World} (hu : A.units + 8 < cLine) : (nestedKind P w).room A := hu
theorem n_getItem {Q : Value → Shared → Prop} (hu : A.units + 9 < cLine) (I : Inv X pins σ H s) (e : Rd H a (dN X.w a kvs)) (ks : KeysN X.K H kvs) (hk : KeyV X.K H k (.ref b)) (hd : k.depth ≤ 8) (hv : valN kvs k = some v)
    (h : ∀ w' s', Inv X pins σ H s' → RelV v w' → Q w' s') : wpAny (model X.prog X.w) A (getItem (.ref a) (.ref b)) Q E s := by
  obtain ⟨z, hs, xs, rel, dd⟩ := dn_rd I e ks
  obtain ⟨w', hw, rw'⟩ := RelO.some_of (v := v) (o := (atKey xs k).map (·.2)) (by rw [← hv]; exact rel.val k)
  obtain ⟨p, hp, hp2⟩ := Option.map_eq_some_iff.mp hw
  refine wpAny_getItem_heap (knd := nestedKind X.prog X.w) (nroom hu) (nis I hk hd) dd hp ?_
  rw [hp2]
  exact h w' _ (I.tok _) rw'
theorem n_setItem {Q : Unit → Shared → Prop} (hu : A.units + 9 < cLine) (I : Inv X pins σ H s) (e : H a = some (dN X.w a kvs)) (ks : KeysN X.K H kvs) (hl : kvs.length < sizeLine) (hk : KeyV X.K H k (.ref b)) (hd : k.depth ≤ 8) (rv : RelV v r)
    (h : ∀ s', Inv X pins σ (upd H a (dN X.w a (putN kvs k b v))) s' → Q () s') : wpAny (model X.prog X.w) A (setItem (.ref a) (.ref b) r) Q E s := by
  obtain ⟨z, hs, xs, rel, dd⟩ := dn_rd I (.inl e) ks
  have hz : xs.length ≤ sizeLine := by rw [← Paired.length rel]; exact z
  refine wpAny_setItem_heap (knd := nestedKind X.prog X.w) (hsz := hz) (nroom hu) (nis I hk hd) dd fun h' dd' hs' => h _ ?_
  have he : ∃ q, h'.get? a = some q := let ⟨q, _, _, hq, _⟩ := dd'; ⟨q, hq⟩
  refine d_write I (by rw [e]; exact True.intro) hs' he (dn_ok (NIn.of ?_ hs (rel.put k rv) dd'))
  have := length_putN kvs k b v
  omega
theorem n_dictSet {Q : Unit → Shared → Prop} (hu : A.units + 8 < cLine) (I : Inv X pins σ H s) (e : H a = some (dN X.w a kvs)) (ks : KeysN X.K H kvs) (hl : kvs.length < sizeLine) (hk : KeyV X.K H k (.ref b)) (hd : k.depth ≤ 8) (rv : RelV v r)
    (h : ∀ s', Inv X pins σ (upd H a (dN X.w a (putN kvs k b v))) s' → Q () s') : wpAny (model X.prog X.w) A (dictSet a (.ref b) r) Q E s := by
  obtain ⟨z, hs, xs, rel, dd⟩ := dn_rd I (.inl e) ks
  have hz : xs.length ≤ sizeLine := by rw [← Paired.length rel]; exact z
  refine wpAny_dictSet_heap (knd := nestedKind X.prog X.w) (hsz := hz) (nroom0 hu) (nis I hk hd) dd fun h' dd' hs' => h _ ?_
  have he : ∃ q, h'.get? a = some q := let ⟨q, _, _, hq, _⟩ := dd'; ⟨q, hq⟩
  refine d_write I (by rw [e]; exact True.intro) hs' he (dn_ok (NIn.of ?_ hs (rel.put k rv) dd'))
  have := length_putN kvs k b v
  omega
theorem n_delItem {Q : Unit → Shared → Prop} (hu : A.units + 9 < cLine) (I : Inv X pins σ H s) (e : H a = some (dN X.w a kvs)) (ks : KeysN X.K H kvs) (hk : KeyV X.K H k (.ref b)) (hd : k.depth ≤ 8) (hv : (valN kvs k).isSome = true)
    (h : ∀ s', Inv X pins σ (upd H a (dN X.w a (dropN kvs k))) s' → Q () s') : wpAny (model X.prog X.w) A (delItem (.ref a) (.ref b)) Q E s := by
  obtain ⟨z, hs, xs, rel, dd⟩ := dn_rd I (.inl e) ks
  have hz : xs.length ≤ sizeLine := by rw [← Paired.length rel]; exact z
  have q := (rel.val k).isSome_eq
  rw [hv, Option.isSome_map] at q
  obtain ⟨p, hp⟩ := Option.isSome_iff_exists.mp q.symm
  refine wpAny_delItem_heap (knd := nestedKind X.prog X.w) (hsz := hz) (nroom hu) (nis I hk hd) hs dd hp fun h' dd' hs' => h _ ?_
  have he : ∃ q, h'.get? a = some q := let ⟨q, _, _, hq, _⟩ := dd'; ⟨q, hq⟩
  exact d_write I (by rw [e]; exact True.intro) hs' he (dn_ok (NIn.of (Nat.le_trans (length_dropN kvs k) z) hs (rel.drop k) dd'))
theorem n_get2 {y : V} {u : Value} {Q : Value → Shared → Prop} (hu : A.units + 9 < cLine) (I : Inv X pins σ H s) (e : Rd H a (dN X.w a kvs)) (ks : KeysN X.K H kvs) (hk : KeyV X.K H k (.ref b)) (hd : k.depth ≤ 8) (ry : RelV y u)
    (h : ∀ w' s', Inv X pins σ H s' → RelV ((valN kvs k).getD y) w' → Q w' s') : wpAny (model X.prog X.w) A (call (.builtin "dict.get") [.ref a, .ref b, u]) Q E s := by
  obtain ⟨z, hs, xs, rel, dd⟩ := dn_rd I e ks
  refine call_meetsIn PySem.F.slot_dict_get dd.typeIs PySem.F.entry_dict_get (PySem.F.args_dict_get_3 _ _ _) (meetsH_dict_get_default (nestedKind X.prog X.w) a b hs u) ⟨nroom hu, k, xs, (nis I hk hd), dd, h _ _ (I.tok _) ?_⟩
  exact (rel.val k).getD ry
end

/-! ### readings and rules -/
/-- d[y] -/
def tNGet (K : PySem.W.Frag) (w : World) (td ty : TE) : TE := fun σ H Q => td σ H fun x H1 => ty σ H1 fun y H2 => ∃ a b kvs k v, x = .ref a ∧ y = .ref b ∧ Rd H2 a (dN w a kvs) ∧ KeysN K H2 kvs ∧ KeyV K H2 k (.ref b) ∧ k.depth ≤ 8 ∧ valN kvs k = some v ∧ Q v H2
/-- d.get(y, z) -/
def tNGet2 (K : PySem.W.Frag) (w : World) (td ty tz : TE) : TE := fun σ H Q => td σ H fun x H1 => ∃ a kvs, x = .ref a ∧ Rd H1 a (dN w a kvs) ∧ KeysN K H1 kvs ∧ ty σ H1 fun y H2 => tz σ H2 fun z H3 => ∃ b k, y = .ref b ∧ Rd H3 a (dN w a kvs) ∧ KeysN K H3 kvs ∧ KeyV K H3 k (.ref b) ∧ k.depth ≤ 8 ∧ Q ((valN kvs k).getD z) H3
/-- d[y] = v -/
def sNPut (K : PySem.W.Frag) (w : World) (td ty tv : TE) : TS := fun D σ H => tv σ H fun v H1 => td σ H1 fun x H2 => ty σ H2 fun y H3 => ∃ a b kvs k, x = .ref a ∧ y = .ref b ∧ H3 a = some (dN w a kvs) ∧ KeysN K H3 kvs ∧ kvs.length < sizeLine ∧ KeyV K H3 k (.ref b) ∧ k.depth ≤ 8 ∧ D.nx σ (upd H3 a (dN w a (putN kvs k b v)))
/-- del d[y] -/
def sNDel (K : PySem.W.Frag) (w : World) (td ty : TE) : TS := fun D σ H => td σ H fun x H1 => ty σ H1 fun y H2 => ∃ a b kvs k, x = .ref a ∧ y = .ref b ∧ H2 a = some (dN w a kvs) ∧ KeysN K H2 kvs ∧ KeyV K H2 k (.ref b) ∧ k.depth ≤ 8 ∧ (valN kvs k).isSome = true ∧ D.nx σ (upd H2 a (dN w a (dropN kvs k)))
/-- {} -/
def tNNew (w : World) : TE := fun _ H Q => ∀ p, H p = none → Q (.ref p) (upd H p (dN w p []))
def rNLen (K : PySem.W.Frag) (w : World) : List V → Hp → VK → Prop := fun xs H Q => ∃ (p : Addr) (kvs : List NE), xs = [.ref p] ∧ Rd H p (dN w p kvs) ∧ KeysN K H kvs ∧ Q (.int ((kvs.length : Nat) : Int)) H
theorem dn_empty {P : Program} {w : World} {H : Hp} (h : Heap) (hb : sysModules < h.objs.size) : ObjOk P w H (h.push { cls := .type "dict", data := .dict #[] }) h.objs.size (dN w h.objs.size []) :=
  dn_ok ⟨Nat.zero_le _, beq_eq_false_iff_ne.mpr (Ne.symm (Nat.ne_of_lt hb)), [], .nil, _, #[], 0, Heap.get?_push_size _ rfl, ⟨rfl, rfl, rfl⟩, rfl, rfl, List.nodup_nil⟩
section
variable {X : Cx} {o i e f value : Expr} {pos pos' tpos apos cpos : Pos} {td ty tv tx : TE}
theorem dn_type {pins : List (Addr × Obj)} {σ : L2.St} {H : Hp} {s : Shared} {a : Addr} {kvs : List NE} (I : Inv X pins σ H s) (e : Rd H a (dN X.w a kvs)) :
    s.TypeIs (.ref a) "dict" ∧ (∀ b, Value.ref a = .ref b → ∃ ob, s.heap.get? b = some ob ∧ ob.dict = none) ∧ (a == sysModules) = false := by
  obtain ⟨⟨z, y, xs, r, ob, es, ep, h1, h2, h3, h4, h5⟩, _, _⟩ := (show ObjOk X.prog X.w H s.heap a (dN X.w a kvs) from rd_of I.hok e)
  refine ⟨⟨ob, h1, h2.1⟩, fun b q => ?_, y⟩
  cases q
  exact ⟨ob, h1, h2.2.1⟩
theorem pe_nget (hu : X.A.units + 9 < cLine) (ho : PE X o td) (hi : PE X i ty) (hs : NoSl i) : PE X (.Subscript o i pos) (tNGet X.K X.w td ty) := by
  refine ⟨fun pins s σ H Q I h => ?_⟩
  refine subD_of PySem.F.slot_dict_getitem.lookup hs (thn (ho.run pins s σ H _ I h) fun u s1 ⟨x, H1, I1, rx, q1⟩ => thn (hi.run pins s1 σ H1 _ I1 q1) fun iv s2 ⟨y, H2, I2, ry, a, b, kvs, k, v, ex, ey, g, ks, hk, hd, hv, q2⟩ => ?_)
  subst ex ey
  obtain rfl : u = Value.ref a := rx
  obtain rfl : iv = Value.ref b := ry
  exact ⟨(dn_type I2 g).1, n_getItem hu I2 g ks hk hd hv fun w' s3 I3 rw' => ⟨v, H2, I3, rw', q2⟩⟩
theorem ps_nput (hu : X.A.units + 9 < cLine) (ho : PE X o td) (hi : PE X i ty) (hv : PE X value tv) (hs : swapsWith value (some (.Subscript o i pos')) pos.line X.env = pure false) :
    PS X (.Assign [.Subscript o i pos'] value pos) (sNPut X.K X.w td ty tv) := by
  refine ⟨fun pins s σ H D I h => ?_⟩
  refine wpAny_Assign_Subscript (thn (hv.run pins s σ H _ I h) fun r s1 ⟨v, H1, I1, rv, q1⟩ => thn (ho.run pins s1 σ H1 _ I1 q1) fun u s2 ⟨x, H2, I2, rx, q2⟩ => thn (hi.run pins s2 σ H2 _ I2 q2) fun iv s3 ⟨y, H3, I3, ry, a, b, kvs, k, ex, ey, g, ks, hl, hk, hd, q3⟩ => ?_) hs
  subst ex ey
  obtain rfl : u = Value.ref a := rx
  obtain rfl : iv = Value.ref b := ry
  exact n_setItem hu I3 g ks hl hk hd rv fun s4 I4 => ⟨σ, _, I4, q3⟩
theorem ps_ndel (hu : X.A.units + 9 < cLine) (ho : PE X o td) (hi : PE X i ty) : PS X (.Delete [.Subscript o i tpos] pos) (sNDel X.K X.w td ty) := by
  refine ⟨fun pins s σ H D I h => ?_⟩
  refine wpAny_Delete (wpAny_deleteEach_cons (wpAny_delete_Subscript (thn (ho.run pins s σ H _ I h) fun u s1 ⟨x, H1, I1, rx, q1⟩ => thn (hi.run pins s1 σ H1 _ I1 q1) fun iv s2 ⟨y, H2, I2, ry, a, b, kvs, k, ex, ey, g, ks, hk, hd, hv, q2⟩ => ?_)))
  subst ex ey
  obtain rfl : u = Value.ref a := rx
  obtain rfl : iv = Value.ref b := ry
  exact n_delItem hu I2 g ks hk hd hv fun s3 I3 => wpAny_deleteEach_nil ⟨σ, _, I3, q2⟩
theorem pe_nget2 (hu : X.A.units + 9 < cLine) (ho : PE X o td) (he : PE X e ty) (hf : PE X f tx) (m : M2 X o "get" apos e f cpos) : PE X (.Call (.Attribute o "get" apos) [e, f] [] cpos) (tNGet2 X.K X.w td ty tx) := by
  refine ⟨fun pins s σ H Q I h => ?_⟩
  refine wpAny_Call_method m.base m.few m.line PySem.F.plainAttrs_dict PySem.F.slot_dict_get PySem.F.type_dict_get (thn (ho.run pins s σ H _ I h) fun u s1 ⟨x, H1, I1, rx, a, kvs, ex, d, ks, q1⟩ => ?_)
  subst ex
  obtain rfl : u = Value.ref a := rx
  obtain ⟨t1, t2, _⟩ := dn_type I1 d
  refine ⟨t1, t2, ?_⟩
  rw [m.trees]
  refine Calls.callWith_builtin rfl (Calls.evalArgs_plain (Calls.spliced_cons (thn (he.run pins s1 σ H1 _ I1 q1) fun iv s2 ⟨y, H2, I2, ry, q2⟩ =>
    Calls.spliced_cons (thn (hf.run pins s2 σ H2 _ I2 q2) fun fv s3 ⟨z, H3, I3, rz, b, k, ey, g, ks3, hk, hd, q3⟩ => Calls.spliced_nil ?_))))
  subst ey
  obtain rfl : iv = Value.ref b := ry
  exact n_get2 hu I3 g ks3 hk hd rz fun w' s4 I4 rw' => ⟨_, H3, I4, rw', q3⟩
theorem pe_nnew : PE X (.Dict [] [] pos) (tNNew X.w) := ⟨fun pins s σ H Q I h =>
  wpAny_Dict_empty ⟨.ref s.heap.objs.size, _, I.laid (a := s.heap.objs.size) (o := dN X.w s.heap.objs.size []) (t' := s.toks) (fun _ _ q => Heap.get?_push_of_some _ q) (Nat.le_refl _) (dn_empty s.heap I.big), rfl, h _ (I.hok.fresh (Nat.le_refl _))⟩⟩
theorem call_len_dn : CallR X (.builtin "len") (rNLen X.K X.w) := by
  intro pins s σ H xs us Q I r h
  obtain ⟨p, kvs, rfl, hp, ks, q⟩ := h
  obtain ⟨u, rfl, rx⟩ := vals1 r
  obtain rfl : u = .ref p := rx
  obtain ⟨z, hd, ys, rel, dd⟩ := dn_rd I hp ks
  have hl : kvs.length = ys.length := Paired.length rel
  refine call_len_dictH hd dd (by rw [← hl]; rw [sizeLine_eq] at z; omega) ?_
  rw [← hl]
  exact ⟨.int ((kvs.length : Nat) : Int), H, I.tok _, ⟨_, rfl⟩, q⟩
end
end K1D

set_option Elab.async false
set_option linter.all false
set_option maxRecDepth 100000
set_option maxHeartbeats 4000000
/-! Walks over a dict of nested keys: for k in d, d.values(), d.items(). Speaks of no program. -/
namespace K1D
open PySem PySem.Spec PyProof.Rows L2
theorem nr_get {kvs : List NE} {xs : List (NestedKey × Addr × Value)} (h : NR kvs xs) {i : Nat} {x : NE} (e : kvs[i]? = some x) : ∃ u, xs[i]? = some (x.1, x.2.1, u) ∧ RelV x.2.2 u := by
  obtain ⟨b, hb, h1, h2, h3⟩ := paired_get h e
  exact ⟨b.2.2, by rw [hb, h1, h2], h3⟩
section
variable {X : Cx} {pins : List (Addr × Obj)} {σ : L2.St} {H : Hp} {s : Shared} {d : Addr} {o : Obj} {kvs : List NE}
/-- what is known of a locked one -/
theorem Inv.frzN (I : Inv X pins σ H s) (h : H d = some (.frz o (dN X.w d kvs))) :
    (d == sysModules) = false ∧ kvs.length ≤ sizeLine ∧ ∃ (es : Array DictEntry) (ep : Nat), o.data = .dict es ep ∧ s.heap.DictRaw d es ep ∧ es.size = kvs.length ∧
      ∀ (i : Nat) (x : NE) (hi : i < es.size), kvs[i]? = some x → es[i].key = .ref x.2.1 ∧ RelV x.2.2 es[i].val := by
  obtain ⟨hd, ⟨z, hs, xs, r, o', es, ep, ho, hx, hdt, he, _⟩, _⟩ := I.hok d _ h
  rw [hd] at ho
  cases ho
  refine ⟨hs, z, es, ep, hdt, ⟨o, hd, hx, hdt⟩, ?_, fun i x hi e => ?_⟩
  · have l1 : es.toList.length = xs.length := by rw [he, List.length_map]
    have l2 : kvs.length = xs.length := Paired.length r
    rw [Array.length_toList] at l1
    omega
  · obtain ⟨u, hu, ru⟩ := nr_get r e
    have q : es.toList[i]? = some (entN X.w (x.1, x.2.1, u)) := by rw [he, List.getElem?_map, hu]; rfl
    have q2 : es[i] = entN X.w (x.1, x.2.1, u) := by
      rw [List.getElem?_eq_getElem (by simpa using hi)] at q
      simpa using q
    rw [q2]
    exact ⟨rfl, ru⟩
end
/-- the keys of the locked dict at d, in their order: where they stand -/
def Itnk (w : World) (d : Addr) (o : Obj) (kvs : List NE) : It :=
  ⟨fun i H => H d = some (.frz o (dN w d kvs)) ∧ i < kvs.length, fun i H x H' => H' = H ∧ ∃ e, kvs[i]? = some e ∧ x = .ref e.2.1, fun i H => H d = some (.frz o (dN w d kvs)) ∧ kvs.length ≤ i⟩
/-- the values -/
def Itnv (w : World) (d : Addr) (o : Obj) (kvs : List NE) : It :=
  ⟨fun i H => H d = some (.frz o (dN w d kvs)) ∧ i < kvs.length, fun i H x H' => H' = H ∧ ∃ e, kvs[i]? = some e ∧ x = e.2.2, fun i H => H d = some (.frz o (dN w d kvs)) ∧ kvs.length ≤ i⟩
/-- the pairs, each a new tuple -/
def Itni (w : World) (d : Addr) (o : Obj) (kvs : List NE) : It :=
  ⟨fun i H => H d = some (.frz o (dN w d kvs)) ∧ i < kvs.length, fun i H x H' => ∃ T e, kvs[i]? = some e ∧ x = .ref T ∧ H T = none ∧ H' = upd H T (.tup [.ref e.2.1, e.2.2]), fun i H => H d = some (.frz o (dN w d kvs)) ∧ kvs.length ≤ i⟩
section
variable {P : Program} {w : World} {K : PySem.W.Frag} {tg : Expr} {d : Addr} {o : Obj} {es : Array DictEntry} {ep : Nat}
theorem turn_nkeys {kvs : List NE} (it : Addr) (hod : o.data = .dict es ep) (hsz : es.size = kvs.length) : Turn P w K tg (Itnk w d o kvs) [it] it (fun i h => h.IsKeyIter it d i es.size ep) where
  mem := by simp
  obj := fun i h st b hb => by
    have e : b = it := by simpa using hb
    subst e
    obtain ⟨oi, e, c, dd⟩ := st
    exact ⟨oi, e, fun v z => by rw [dd] at z; cases z⟩
  keep := fun i h h' st k => st.at fun oi e => k it (by simp) oi e
  item := by
    intro X hP hw hK hc i pins s σ H E I hf st hg
    subst hP hw hK
    obtain ⟨hd, hi⟩ := hg
    obtain ⟨f0, f1, f2, f3, f4, f5⟩ := hf it (by simp)
    obtain ⟨hs, hz, es', ep', hdt, raw, _, ent⟩ := Inv.frzN I hd
    obtain ⟨rfl, rfl⟩ := dict_ep hod hdt
    have hkv : kvs[i]? = some kvs[i] := List.getElem?_eq_getElem hi
    have hlt : i < es'.size := by rw [hsz]; exact hi
    obtain ⟨hkey, _⟩ := ent i _ hlt hkv
    refine wpAny_pyNext_keys_item_raw st raw hlt fun h' st' sb => ?_
    have I1 : Inv X pins σ H { s with heap := h' } := I.turned (t' := s.toks) (fun b ob hb e => (sb.2 b hb).trans e) f0 f1 f3 f4 f5
    obtain ⟨oi, e, c, dd⟩ := id st'
    exact ⟨es'[i].key, rfl, go_of (s := { s with heap := h' }) e c dd (by decide) ⟨.ref kvs[i].2.1, H, I1, hkey, ⟨rfl, _, hkv, rfl⟩, st', fun b hb => (hf b hb).1⟩⟩
  done := by
    intro X hP hw hK hc i pins s σ H E I hf st hg
    subst hP hw hK
    obtain ⟨hd, hi⟩ := hg
    obtain ⟨f0, f1, f2, f3, f4, f5⟩ := hf it (by simp)
    obtain ⟨hs, hz, es', ep', hdt, raw, _, ent⟩ := Inv.frzN I hd
    obtain ⟨rfl, rfl⟩ := dict_ep hod hdt
    exact wpAny_pyNext_keys_end_raw (I.ok.hd hc) st raw (by rw [hsz]; exact hi) fun h' eb => ⟨rfl, I.turned (t' := s.toks) (fun b ob hb e => eb b ob hb e) f0 f1 f3 f4 f5⟩
  self := fun A i s Q E st h => by
    refine wpAny_pyIter_slot st.typeIs F.slot_dict_keyiterator_iter (wpAny_call_entry F.slot_dict_keyiterator_iter st.typeIs F.entry_dict_keyiterator_iter ?_ (F.args_dict_keyiterator_iter_1 _))
    show wpAny _ _ (ret (.ref it)) _ _ s
    exact wpAny_pure ⟨_, rfl, "dict_keyiterator", _, st.typeIs, F.slot_dict_keyiterator_next.lookup, h⟩
theorem turn_nvals {kvs : List NE} (it : Addr) (hod : o.data = .dict es ep) (hsz : es.size = kvs.length) : Turn P w K tg (Itnv w d o kvs) [it] it (fun i h => h.IsValIter it d i es.size ep) where
  mem := by simp
  obj := fun i h st b hb => by
    have e : b = it := by simpa using hb
    subst e
    obtain ⟨oi, e, c, dd⟩ := st
    exact ⟨oi, e, fun v z => by rw [dd] at z; cases z⟩
  keep := fun i h h' st k => st.at fun oi e => k it (by simp) oi e
  item := by
    intro X hP hw hK hc i pins s σ H E I hf st hg
    subst hP hw hK
    obtain ⟨hd, hi⟩ := hg
    obtain ⟨f0, f1, f2, f3, f4, f5⟩ := hf it (by simp)
    obtain ⟨hs, hz, es', ep', hdt, raw, _, ent⟩ := Inv.frzN I hd
    obtain ⟨rfl, rfl⟩ := dict_ep hod hdt
    have hkv : kvs[i]? = some kvs[i] := List.getElem?_eq_getElem hi
    have hlt : i < es'.size := by rw [hsz]; exact hi
    obtain ⟨_, hval⟩ := ent i _ hlt hkv
    refine wpAny_pyNext_values_item_raw st raw hlt fun h' st' sb => ?_
    have I1 : Inv X pins σ H { s with heap := h' } := I.turned (t' := s.toks) (fun b ob hb e => (sb.2 b hb).trans e) f0 f1 f3 f4 f5
    obtain ⟨oi, e, c, dd⟩ := id st'
    exact ⟨es'[i].val, rfl, go_of (s := { s with heap := h' }) e c dd (by decide) ⟨kvs[i].2.2, H, I1, hval, ⟨rfl, _, hkv, rfl⟩, st', fun b hb => (hf b hb).1⟩⟩
  done := by
    intro X hP hw hK hc i pins s σ H E I hf st hg
    subst hP hw hK
    obtain ⟨hd, hi⟩ := hg
    obtain ⟨f0, f1, f2, f3, f4, f5⟩ := hf it (by simp)
    obtain ⟨hs, hz, es', ep', hdt, raw, _, ent⟩ := Inv.frzN I hd
    obtain ⟨rfl, rfl⟩ := dict_ep hod hdt
    exact wpAny_pyNext_values_end_raw (I.ok.hd hc) st raw (by rw [hsz]; exact hi) fun h' eb => ⟨rfl, I.turned (t' := s.toks) (fun b ob hb e => eb b ob hb e) f0 f1 f3 f4 f5⟩
  self := fun A i s Q E st h => wpAny_pyIter_valiter st h
theorem turn_nitems {kvs : List NE} {elts : List Expr} {kk : Nat} {tpos : Pos} (it : Addr) (hod : o.data = .dict es ep) (hsz : es.size = kvs.length) :
    Turn P w K (.Tuple elts kk tpos) (Itni w d o kvs) [it] it (fun i h => ∃ ok ov, IsItemIter h it d i es.size ep ok ov) where
  mem := by simp
  obj := fun i h st b hb => by
    have e : b = it := by simpa using hb
    subst e
    obtain ⟨ok, ov, e⟩ := st
    exact ⟨_, e, fun v z => nomatch z⟩
  keep := fun i h h' st k => let ⟨ok, ov, e⟩ := st; ⟨ok, ov, k it (by simp) _ e⟩
  item := by
    intro X hP hw hK hc i pins s σ H E I hf st hg
    subst hP hw hK
    obtain ⟨hd, hi⟩ := hg
    obtain ⟨hs, hz, es', ep', hdt, raw, _, ent⟩ := Inv.frzN I hd
    obtain ⟨rfl, rfl⟩ := dict_ep hod hdt
    have hkv : kvs[i]? = some kvs[i] := List.getElem?_eq_getElem hi
    have hlt : i < es'.size := by rw [hsz]; exact hi
    obtain ⟨hkey, hval⟩ := ent i _ hlt hkv
    obtain ⟨ok, ov, he⟩ := st
    have hlt' : it < s.heap.objs.size := Heap.lt_size he
    refine wpAny_pyNext_items_item_raw he raw hlt fun h' ho hT hz' hk => ?_
    refine ⟨_, rfl, wpAny_letOwnedTupleGo_items (s := { s with heap := h' }) ho fun h'' he' sb => ?_⟩
    have hT2 : h''.get? s.heap.objs.size = some { cls := .type "tuple", data := .seq #[es'[i].key, es'[i].val] } := (sb.2 _ (Nat.ne_of_gt hlt')).trans hT
    have new : ObjOk X.prog X.w (upd H s.heap.objs.size (.tup [.ref kvs[i].2.1, kvs[i].2.2])) h'' s.heap.objs.size (.tup [.ref kvs[i].2.1, kvs[i].2.2]) :=
      ⟨by show 2 ≤ sizeLine; decide, [es'[i].key, es'[i].val], .cons hkey (.cons hval .nil), ⟨_, hT2, rfl, _, rfl⟩⟩
    have I1 : Inv X pins σ (upd H s.heap.objs.size (.tup [.ref kvs[i].2.1, kvs[i].2.2])) { s with heap := h'' } :=
      I.turnedNew (t' := s.toks) (ch := [it]) (fun b ob hb e => (sb.2 b (by simpa using hb)).trans (hk b ob (by simpa using hb) e)) hf (Nat.le_refl _) new
    refine ⟨.ref s.heap.objs.size, _, I1, rfl, ⟨_, _, hkv, rfl, I.hok.fresh (Nat.le_refl _), rfl⟩, ⟨es'[i].key, es'[i].val, he'⟩, fun b hb => ?_⟩
    have e : b = it := by simpa using hb
    rw [e, upd_ne (Nat.ne_of_lt hlt')]
    exact (hf it (by simp)).1
  done := by
    intro X hP hw hK hc i pins s σ H E I hf st hg
    subst hP hw hK
    obtain ⟨hd, hi⟩ := hg
    obtain ⟨f0, f1, f2, f3, f4, f5⟩ := hf it (by simp)
    obtain ⟨hs, hz, es', ep', hdt, raw, _, ent⟩ := Inv.frzN I hd
    obtain ⟨rfl, rfl⟩ := dict_ep hod hdt
    obtain ⟨ok, ov, he⟩ := st
    exact wpAny_pyNext_items_end_raw (I.ok.hd hc) he raw (by rw [hsz]; exact hi) fun h' eb => ⟨rfl, I.turned (t' := s.toks) (fun b ob hb e => eb b ob hb e) f0 f1 f3 f4 f5⟩
  self := fun A i s Q E st h => let ⟨_, _, e⟩ := st; PySem.W.kcp_self e h
end
/-- the dict is locked -/
def iNKeys (w : World) (td : TE) : TI := fun σ H R => td σ H fun x H1 => ∃ d o kvs, x = .ref d ∧ H1 d = some (.frz o (dN w d kvs)) ∧ R (Itnk w d o kvs) H1
def iNVals (w : World) (td : TE) : TI := fun σ H R => td σ H fun x H1 => ∃ d o kvs, x = .ref d ∧ H1 d = some (.frz o (dN w d kvs)) ∧ R (Itnv w d o kvs) H1
def iNItems (w : World) (td : TE) : TI := fun σ H R => td σ H fun x H1 => ∃ d o kvs, x = .ref d ∧ H1 d = some (.frz o (dN w d kvs)) ∧ R (Itni w d o kvs) H1
section
variable {X : Cx} {tg e : Expr} {td : TE} {apos cpos : Pos}
theorem pi_nkeys (he : PE X e td) : PI X tg e (iNKeys X.w td) := by
  refine ⟨fun pins s σ H R I h => ?_⟩
  refine thn (he.run pins s σ H _ I h) fun u s1 ⟨x, H1, I1, rx, d, o, kvs, ex, hd, q⟩ => ?_
  subst ex
  obtain rfl : u = Value.ref d := rx
  obtain ⟨hs, hz, es, ep, hdt, raw, hsz, ent⟩ := Inv.frzN I1 hd
  exact wpAny_pyIter_dict_raw hs raw (pi_one (tk := s1.toks) I1 _ (turn_nkeys _ hdt hsz) ⟨_, Heap.get?_push_size _ rfl, rfl, rfl⟩ q)
theorem pi_nvalues (he : PE X e td) (hbase : attributeBase e "values" X.env (eval e X.env) = eval e X.env := by rfl) (hline : (apos.endLine == cpos.line) = true := by rfl) : PI X tg (.Call (.Attribute e "values" apos) [] [] cpos) (iNVals X.w td) := by
  refine ⟨fun pins s σ H R I h => ?_⟩
  refine wpAny_Call_method (T := "dict") (id := "dict.values") hbase rfl hline F.plainAttrs_dict F.slot_dict_values F.type_dict_values (thn (he.run pins s σ H _ I h) fun u s1 ⟨x, H1, I1, rx, d, o, kvs, ex, hd, q⟩ => ?_)
  subst ex
  obtain rfl : u = Value.ref d := rx
  obtain ⟨hs, hz, es, ep, hdt, raw, hsz, ent⟩ := Inv.frzN I1 hd
  refine ⟨raw.typeIs, fun b q => ?_, ?_⟩
  · cases q
    obtain ⟨ob, h1, h2, _⟩ := raw
    exact ⟨ob, h1, h2.2.1⟩
  have I2 : Inv X pins σ H1 { s1 with heap := s1.heap.push { cls := .type "dict_values", data := .fields #[.ref d] } } := I1.kept (t' := s1.toks) fun b ob q => Heap.get?_push_of_some _ q
  have fin : wpAny (model X.prog X.w) X.A (pyIter (.ref s1.heap.objs.size)) (PIE X pins σ tg R) X.xe { s1 with heap := s1.heap.push { cls := .type "dict_values", data := .fields #[.ref d] } } :=
    wpAny_pyIter_values_raw (d := d) ⟨_, Heap.get?_push_size _ rfl, rfl, rfl⟩ (raw.at fun o q => Heap.get?_push_of_some _ q) (pi_one (tk := s1.toks) I2 _ (turn_nvals _ hdt hsz) ⟨_, Heap.get?_push_size _ rfl, rfl, rfl⟩ q)
  show wpAny _ _ (callWith cpos (.builtin "dict.values") [.ref d] [] []) _ X.xe s1
  exact method_meetsIn F.slot_dict_values F.entry_dict_values rfl (PySem.evalArgs_none ⟨rfl, raw.typeIs, F.args_dict_values_1 _, _, meets_dict_values_raw d hs, ⟨es, ep, raw⟩, fin⟩)
theorem pi_nitems {elts : List Expr} {kk : Nat} {tpos : Pos} (he : PE X e td) (hbase : attributeBase e "items" X.env (eval e X.env) = eval e X.env := by rfl) (hline : (apos.endLine == cpos.line) = true := by rfl) :
    PI X (.Tuple elts kk tpos) (.Call (.Attribute e "items" apos) [] [] cpos) (iNItems X.w td) := by
  refine ⟨fun pins s σ H R I h => ?_⟩
  refine wpAny_Call_method (T := "dict") (id := "dict.items") hbase rfl hline F.plainAttrs_dict F.slot_dict_items F.type_dict_items (thn (he.run pins s σ H _ I h) fun u s1 ⟨x, H1, I1, rx, d, o, kvs, ex, hd, q⟩ => ?_)
  subst ex
  obtain rfl : u = Value.ref d := rx
  obtain ⟨hs, hz, es, ep, hdt, raw, hsz, ent⟩ := Inv.frzN I1 hd
  refine ⟨raw.typeIs, fun b q => ?_, ?_⟩
  · cases q
    obtain ⟨ob, h1, h2, _⟩ := raw
    exact ⟨ob, h1, h2.2.1⟩
  have I2 : Inv X pins σ H1 { s1 with heap := s1.heap.push { cls := .type "dict_items", data := .fields #[.ref d] } } := I1.kept (t' := s1.toks) fun b ob q => Heap.get?_push_of_some _ q
  have fin : wpAny (model X.prog X.w) X.A (pyIter (.ref s1.heap.objs.size)) (PIE X pins σ (.Tuple elts kk tpos) R) X.xe { s1 with heap := s1.heap.push { cls := .type "dict_items", data := .fields #[.ref d] } } := 
    wpAny_pyIter_items_raw (d := d) ⟨_, Heap.get?_push_size _ rfl, rfl, rfl⟩ (raw.at fun o q => Heap.get?_push_of_some _ q) (pi_one (tk := s1.toks) I2 _ (turn_nitems _ hdt hsz) ⟨.none, .none, Heap.get?_push_size _ rfl⟩ q)
  show wpAny _ _ (callWith cpos (.builtin "dict.items") [.ref d] [] []) _ X.xe s1
  exact method_meetsIn F.slot_dict_items F.entry_dict_items rfl (PySem.evalArgs_none ⟨rfl, raw.typeIs, F.args_dict_items_1 _, _, meets_dict_items_raw d hs, ⟨es, ep, raw⟩, fin⟩)
end
end K1D

set_option Elab.async false
set_option linter.all false
set_option maxRecDepth 100000
set_option maxHeartbeats 4000000
/-! {k: v for .. in ..} where the keys are nested. Speaks of no program. -/
namespace K1D
open PySem PySem.Spec PyProof.Rows L2
/-- what one pair does to the new dict at D -/
def PutAt (K : PySem.W.Frag) (w : World) (D : Addr) (y z : V) (G : Hp) (go : Hp → Prop) : Prop :=
  ∃ kvs k b, y = .ref b ∧ G D = some (dN w D kvs) ∧ KeysN K G kvs ∧ kvs.length < sizeLine ∧ KeyV K G k (.ref b) ∧ k.depth ≤ 8 ∧ go (upd G D (dN w D (putN kvs k b z)))
/-- {k: v for target in iter if ..}: D the new dict -/
def tNDc (K : PySem.W.Frag) (w : World) (wi : TI) (g : TG) (tt : TT) (tk tv : TE) (vs : List Nat) : TE := fun σ H Q => wi σ H fun J G => ∀ D, G D = none →
  ∃ W : Nat → Nat → Hp → Prop, (∃ m, W 0 m (upd G D (dN w D []))) ∧ ∀ i m F, W i m F →
    (J.stop i F ∧ Q (.ref D) F) ∨
    (J.go i F ∧ ∃ Nx : Hp → Prop, (∀ F', Nx F' → ∃ m', m' < m ∧ W (i + 1) m' F') ∧ ∀ x F', J.yld i F x F' → g x (wipe σ vs) F' fun σ2 F2 => wipe σ2 vs = wipe σ vs ∧ tt σ2 F2 fun b F3 =>
      if b = true then tk σ2 F3 fun y F4 => tv σ2 F4 fun z F5 => PutAt K w D y z F5 Nx else Nx F3)
section
variable {X : Cx}
theorem ndc_core {pn : List (Addr × Obj)} {s : Shared} {τ : L2.St} {H : Hp} {Q : VK} {kx vx tg iter : Expr} {ifs : List Expr} {scope : Scope} {own : List (Str × Nat)} {pos pos' : Pos} {wi : TI} {g : TG} {tt : TT} {tk tv : TE} {use : Option (Value → Sem Unit)} {Qf : Value → Shared → Prop}
    (hu : X.A.units + 8 < cLine) (hc : X.calm = true) (hN : X.N.Nodup) (I : Inv X pn τ H s) (hi : PI X tg iter wi) (ok : BlkOk X.N X.env.scope scope own)
    (hg : ∀ (s : Shared) (H : Hp) (C : Addr) (cl : List (Str × Addr)) (fp : List Addr), PG (X.blk s H scope (compEnvC scope cl C X.env) fp) tg g)
    (ht : ∀ (s : Shared) (H : Hp) (C : Addr) (cl : List (Str × Addr)) (fp : List Addr), PTs (X.blk s H scope (compEnvC scope cl C X.env) fp) ifs tt)
    (hk : ∀ (s : Shared) (H : Hp) (C : Addr) (cl : List (Str × Addr)) (fp : List Addr), PE (X.blk s H scope (compEnvC scope cl C X.env) fp) kx tk)
    (hv : ∀ (s : Shared) (H : Hp) (C : Addr) (cl : List (Str × Addr)) (fp : List Addr), PE (X.blk s H scope (compEnvC scope cl C X.env) fp) vx tv)
    (hs : ∀ x, foldedSetIterable iter X.env x = pure x) (h : tNDc X.K X.w wi g tt tk tv (own.map (·.2)) τ H Q)
    (back : ∀ D C s' m G, Inv X pn τ G s' → Q (.ref D) G → s'.heap.Ns C m → FpOk X pn G C → compPost (model X.prog X.w) X.A X.xe use Qf (.ref D) C (.ok .next) s') :
    wpAny (model X.prog X.w) X.A (comprehension (.DictComp kx vx [⟨tg, iter, ifs, 0⟩] scope pos) scope X.env pos' newDict false (eval iter X.env) use) Qf X.xe s := by
  have free : ∀ y ∈ scope.names, y.2 = .free → ∃ c, X.env.cells.lookup y.1 = some c := fun y hy e => (ok.free y hy e).elim (fun k => I.ok.has _ (.inl k)) fun k => I.ok.has _ (.inr k)
  refine wpAny_comprehension_free (use := use) rfl hs (closure_ok free) ok.kind (fun y hy e => by rw [ok.uniq y hy, e]) ?_
  refine thn (hi.run pn s τ H _ I h) fun xv s1 got => thn got fun itv s2 z => ?_
  obtain ⟨it, fp, tn, J, G, rfl, I2, T, sa, fa, turn0⟩ := z
  refine wpAny_newObj_type (newEnv_comp ?_)
  generalize hD : s2.heap.objs.size = D
  obtain ⟨W, ⟨m0, w0⟩, turn⟩ := turn0 D (I2.hok.fresh (Nat.le_of_eq hD))
  generalize e3 : ({ s2 with heap := s2.heap.push { cls := .type "dict", data := .dict #[] } } : Shared) = s3
  have p3 : s3.heap = s2.heap.push { cls := .type "dict", data := .dict #[] } := by rw [← e3]
  have I3 : Inv X pn τ (upd G D (dN X.w D [])) s3 := by
    rw [← e3]
    refine I2.laid (t' := s2.toks) (fun b o q => Heap.get?_push_of_some _ q) (Nat.le_of_eq hD) ?_
    rw [← hD]
    exact dn_empty s2.heap I2.big
  have low : ∀ b ∈ fp, b < s2.heap.objs.size := fun b hb => let ⟨o, q, _⟩ := T.obj _ _ sa b hb; Heap.lt_size q
  have fb : ∀ b ∈ fp, FpOk X pn (upd G D (dN X.w D [])) b ∧ b < s3.heap.objs.size := fun b hb => by
    have lt := low b hb
    refine ⟨⟨?_, (fa b hb).2⟩, by rw [p3, Heap.size_push]; exact Nat.lt_succ_of_lt lt⟩
    rw [upd_ne (by rw [← hD]; exact Nat.ne_of_lt lt)]
    exact (fa b hb).1
  have sb : tn 0 s3.heap := T.keep _ _ _ sa fun b _ o q => by rw [p3]; exact Heap.get?_push_of_some _ q
  have I4 := block_start I3 ok hN fb
  -- the block's own context
  let cl := cellsFrom (s3.heap.objs.size + 1) scope.names (cloFrom X.env.cells scope.names [])
  have rg := hg s3 (upd G D (dN X.w D [])) s3.heap.objs.size cl fp
  have rt := ht s3 (upd G D (dN X.w D [])) s3.heap.objs.size cl fp
  have rk := hk s3 (upd G D (dN X.w D [])) s3.heap.objs.size cl fp
  have rv := hv s3 (upd G D (dN X.w D [])) s3.heap.objs.size cl fp
  show codeAny _ _ (.compStart (.DictComp kx vx [⟨tg, iter, ifs, 0⟩] scope pos) 0 (.ref it) (.ref D) (compEnvC scope cl s3.heap.objs.size X.env)) (compPost (model X.prog X.w) X.A X.xe use Qf (.ref D) s3.heap.objs.size) { s3 with heap := pushCells (s3.heap.push { cls := .type "dict", data := .dict #[] }) scope.names }
  generalize hce : compEnvC scope cl s3.heap.objs.size X.env = ce at I4 rg rt rk rv ⊢
  have cL : ce.locals = s3.heap.objs.size := by subst hce; rfl
  have nfp : ∀ b ∈ fp, (upd G D (dN X.w D [])) b = none := fun b hb => (fb b hb).1.1
  generalize hG3 : upd G D (dN X.w D []) = G3 at I3 I4 rg rt rk rv w0 nfp fb
  generalize e4 : ({ s3 with heap := pushCells (s3.heap.push { cls := .type "dict", data := .dict #[] }) scope.names } : Shared) = s4 at I4 ⊢
  have sc : tn 0 s4.heap := T.keep _ _ _ sb fun b _ o q => by rw [← e4]; exact pushCells_keeps _ _ _ _ (Heap.get?_push_of_some _ q)
  have apart : ∀ {τ' : L2.St} {F : Hp} {s' : Shared}, Inv (X.blk s3 G3 scope ce fp) [] τ' F s' → (∀ b ∈ fp, F b = none) → ∀ b ∈ fp, FpOk (X.blk s3 G3 scope ce fp) [] F b := fun {τ' F s'} J' hn b hb =>
    ⟨hn b hb, (J'.ok.exf b hb).1, J'.ok.exfs b hb, .inl hb, fun x c q => (J'.ok.exf b hb).2 x c q, fun p hp => absurd (show p ∈ ([] : List (Addr × Obj)) ++ [] from hp) (by simp)⟩
  refine codeAny_compStart_dict ?loop (T.self X.A 0 _ _ _ sc ?loop)
  refine compLoop_anyD (fun n s' => ∃ i F, Inv (X.blk s3 G3 scope ce fp) [] (wipe τ (own.map (·.2))) F s' ∧ tn i s'.heap ∧ (∀ b ∈ fp, F b = none) ∧ W i n F) ?_ m0 ⟨0, G3, I4, sc, nfp, w0⟩
  rintro n s5 ⟨i, F5, I5, s5a, n5, w5⟩
  rcases turn i n F5 w5 with ⟨halt, fin0⟩ | ⟨go, Nx, less, step⟩
  · -- no further one: back in the def
    refine thnF (T.done (X.blk s3 G3 scope ce fp) rfl rfl rfl hc i [] s5 _ F5 (fun _ _ => False) I5 (apart I5 n5) s5a halt) fun r s6 ⟨hr, I6⟩ => ?_
    subst hr
    have I7 : Inv X pn τ F5 s6 := I3.call' (ch := fp) I6.os I6.base I6.hok I6.bare fun b hb => let ⟨_, q1, q2, q3, q4, q5⟩ := (fb b hb).1; ⟨q3, q1, q4, q5⟩
    have nC : F5 s3.heap.objs.size = none := by
      rw [← cL]
      exact I6.free
    obtain ⟨m, hn, _⟩ := I6.loc
    have hn' : s6.heap.Ns ce.locals m := hn
    rw [cL] at hn'
    exact back D s3.heap.objs.size s6 m F5 I7 fin0 hn' (I3.fpOk (Nat.le_refl _) nC)
  · refine thnF (T.item (X.blk s3 G3 scope ce fp) rfl rfl rfl hc i [] s5 _ F5 (fun _ _ => False) I5 (apart I5 n5) s5a go) fun r s6 ⟨u, hr, h6⟩ => ?_
    subst hr
    refine thnF h6 fun _ s7 ⟨x, F7, I7, r7, y7, s7a, n7⟩ => ?_
    have I7' := I7.pinned (apart I7 n7) (T.obj _ _ s7a)
    refine thnF (rg.run _ s7 _ F7 x u _ I7' r7 (step x F7 y7)) fun _ s8 ⟨τ8, F8, I8, hw8, q8⟩ => ?_
    refine thnF (rt.run _ s8 τ8 F8 _ I8 q8) fun b s9 ⟨F9, I9, q9⟩ => ?_
    have fin : ∀ {s' : Shared} {F' : Hp}, Inv (X.blk s3 G3 scope ce fp) ([] ++ pinsAt fp s7.heap) τ8 F' s' → Nx F' → ∃ m, m < n ∧ ∃ i F', Inv (X.blk s3 G3 scope ce fp) [] (wipe τ (own.map (·.2))) F' s' ∧ tn i s'.heap ∧ (∀ b ∈ fp, F' b = none) ∧ W i m F' := fun {s' F'} J' nx => by
      obtain ⟨m', lt, w'⟩ := less F' nx
      have pin' : ∀ b ∈ fp, ∀ o, s7.heap.get? b = some o → s'.heap.get? b = some o ∧ F' b = none := fun b hb o q =>
        let z := J'.pin (b, o) (List.mem_append_right _ (List.mem_append_right _ (mem_pinsAt hb q)))
        ⟨z.1, z.2.1⟩
      have hl : (wipe τ (own.map (·.2))).length = τ8.length := by rw [← hw8, wipe_length]
      refine ⟨m', lt, i + 1, F', (J'.unpinned (pins := [])).weak hl (fun j v q => ?_), T.keep _ _ _ s7a fun b hb o q => (pin' b hb o q).1, fun b hb => ?_, w'⟩
      · rw [← hw8] at q
        exact (wipe_some q).1
      · obtain ⟨o, q, _⟩ := T.obj _ _ s7a b hb
        exact (pin' b hb o q).2
    cases b with
    | false =>
      simp only [Bool.false_eq_true, if_false] at q9 ⊢
      exact fin I9 q9
    | true =>
      simp only [if_true] at q9 ⊢
      refine thnF (rk.run _ s9 τ8 F9 _ I9 q9) fun kw s10 ⟨y, F10, I10, r10, q10⟩ => ?_
      refine thnF (rv.run _ s10 τ8 F10 _ I10 q10) fun vw s11 ⟨z, F11, I11, r11, kvs, k, p, ey, hat, ks, lt, key, dep, nx⟩ => ?_
      subst ey
      obtain rfl : kw = Value.ref p := r10
      exact n_dictSet (X := X.blk s3 G3 scope ce fp) hu I11 hat ks lt key dep r11 fun s12 I12 => fin I12 nx
theorem pe_ndc {kx vx tg iter : Expr} {ifs : List Expr} {scope : Scope} {own : List (Str × Nat)} {pos : Pos} {wi : TI} {g : TG} {tt : TT} {tk tv : TE} (hu : X.A.units + 8 < cLine) (hc : X.calm = true) (hN : X.N.Nodup) (hi : PI X tg iter wi) (ok : BlkOk X.N X.env.scope scope own)
    (hg : ∀ (s : Shared) (H : Hp) (C : Addr) (cl : List (Str × Addr)) (fp : List Addr), PG (X.blk s H scope (compEnvC scope cl C X.env) fp) tg g)
    (ht : ∀ (s : Shared) (H : Hp) (C : Addr) (cl : List (Str × Addr)) (fp : List Addr), PTs (X.blk s H scope (compEnvC scope cl C X.env) fp) ifs tt)
    (hk : ∀ (s : Shared) (H : Hp) (C : Addr) (cl : List (Str × Addr)) (fp : List Addr), PE (X.blk s H scope (compEnvC scope cl C X.env) fp) kx tk)
    (hv : ∀ (s : Shared) (H : Hp) (C : Addr) (cl : List (Str × Addr)) (fp : List Addr), PE (X.blk s H scope (compEnvC scope cl C X.env) fp) vx tv) (hs : ∀ x, foldedSetIterable iter X.env x = pure x := by intro _; rfl) :
    PE X (.DictComp kx vx [⟨tg, iter, ifs, 0⟩] scope pos) (tNDc X.K X.w wi g tt tk tv (own.map (·.2))) := ⟨fun pn s τ H Q I h => by
  rw [arm_eval_DictComp]
  refine ndc_core hu hc hN I hi ok hg ht hk hv hs h fun D C s' m G I' q hn ⟨f0, f1, f2, f3, f4, f5⟩ => ⟨m, hn, fun h2 same => ?_⟩
  exact ⟨.ref D, G, I'.turned (t' := s'.toks) (fun b o hb e => (same.2 b hb).trans e) f0 f1 f3 f4 f5, rfl, q⟩⟩

/-- name = {..} on one line, the name a local -/
theorem ps_setNdc {i : Nat} {y : Str} {py : Pos} {kx vx tg iter : Expr} {ifs : List Expr} {scope : Scope} {own : List (Str × Nat)} {pos sp : Pos} {wi : TI} {g : TG} {tt : TT} {tk tv : TE} (hu : X.A.units + 8 < cLine) (hc : X.calm = true) (hN : X.N.Nodup) (hy : X.N[i]? = some y) (loc : X.env.scope.names.lookup y = some .local)
    (sw : swapsWith (.DictComp kx vx [⟨tg, iter, ifs, 0⟩] scope pos) (some (.Name y py)) sp.line X.env = pure true) (hi : PI X tg iter wi) (ok : BlkOk X.N X.env.scope scope own)
    (hg : ∀ (s : Shared) (H : Hp) (C : Addr) (cl : List (Str × Addr)) (fp : List Addr), PG (X.blk s H scope (compEnvC scope cl C X.env) fp) tg g)
    (ht : ∀ (s : Shared) (H : Hp) (C : Addr) (cl : List (Str × Addr)) (fp : List Addr), PTs (X.blk s H scope (compEnvC scope cl C X.env) fp) ifs tt)
    (hk : ∀ (s : Shared) (H : Hp) (C : Addr) (cl : List (Str × Addr)) (fp : List Addr), PE (X.blk s H scope (compEnvC scope cl C X.env) fp) kx tk)
    (hv : ∀ (s : Shared) (H : Hp) (C : Addr) (cl : List (Str × Addr)) (fp : List Addr), PE (X.blk s H scope (compEnvC scope cl C X.env) fp) vx tv) (hs : ∀ x, foldedSetIterable iter X.env x = pure x := by intro _; rfl) :
    PS X (.Assign [.Name y py] (.DictComp kx vx [⟨tg, iter, ifs, 0⟩] scope pos) sp) (tAsg (tNDc X.K X.w wi g tt tk tv (own.map (·.2))) (gName i)) := ⟨fun pn s τ H D I h => by
  rw [exec_Assign_Name_used _ _ _ _ sw]
  refine wpAny_bind (wpAny_standAt (wpAny_bind ?_))
  have h' : tNDc X.K X.w wi g tt tk tv (own.map (·.2)) τ H (fun x G => gName i x τ G D.nx) := h
  show wpAny _ X.A (do let _ ← comprehension (.DictComp kx vx [⟨tg, iter, ifs, 0⟩] scope pos) scope X.env (firstIterPos [⟨tg, iter, ifs, 0⟩] pos) newDict false (eval iter X.env) (some (assign (.Name y py) X.env))) _ _ s
  refine wpAny_bind (thn (ndc_core (Qf := fun _ s' => SP X pn D .next s') hu hc hN I hi ok hg ht hk hv hs h' fun L C s' m G I' q hn ⟨f0, f1, f2, f3, f4, f5⟩ => ?_) fun _ s' hq => wpAny_pure (wpAny_pure hq))
  show wpAny _ _ (assign (.Name y py) X.env (.ref L)) _ _ _
  refine wpAny_assign_Name (store_ok2 (v := V.ref L) I' hN hy (.inl loc) rfl (fun s2 I2 ⟨a, same, ha⟩ => ?_) (.inr loc))
  have ne : C ≠ a := ha.elim (fun z => by rw [z]; exact f1) fun z q => f4 y a z q.symm
  exact ⟨m, hn.sameBut same ne, fun h3 sm3 => ⟨_, G, I2.turned (t' := s2.toks) (fun b o hb e => (sm3.2 b hb).trans e) f0 f1 f3 f4 f5, q⟩⟩⟩

/-! ### the loops -/
/-- a block over n things, of any iterator that knows its turns -/
theorem blk_n {J : It} {n : Nat} {G : Hp} {o : Addr → HO} {D : Addr} {Qd : Hp → Prop} {body : V → Hp → (Hp → Prop) → Prop} (Pv : Nat → Hp → Prop) (h0 : Pv 0 (upd G D (o D))) (go : ∀ i F, i < n → Pv i F → J.go i F) (halt : ∀ F, Pv n F → J.stop n F)
    (hs : ∀ i F x F', i < n → Pv i F → J.yld i F x F' → body x F' (Pv (i + 1))) (hd : ∀ F, Pv n F → Qd F) :
    ∃ W : Nat → Nat → Hp → Prop, (∃ m, W 0 m (upd G D (o D))) ∧ ∀ i m F, W i m F → (J.stop i F ∧ Qd F) ∨ (J.go i F ∧ ∃ Nx : Hp → Prop, (∀ F', Nx F' → ∃ m', m' < m ∧ W (i + 1) m' F') ∧ ∀ x F', J.yld i F x F' → body x F' Nx) := by
  refine ⟨fun i m F => m = n - i ∧ i ≤ n ∧ Pv i F, ⟨n, (Nat.sub_zero n).symm, Nat.zero_le _, h0⟩, ?_⟩
  rintro i m F ⟨rfl, hi, p⟩
  rcases Nat.lt_or_ge i n with lt | ge
  · exact .inr ⟨go i F lt p, Pv (i + 1), fun F' p' => ⟨n - (i + 1), by omega, rfl, lt, p'⟩, fun x F' y => hs i F x F' lt p y⟩
  · obtain rfl : i = n := by omega
    exact .inl ⟨halt F p, hd F p⟩
/-- a for statement over n things -/
theorem for_n {J : It} {n : Nat} {g : TG} {tb : TS} {D : Ends} {σ : L2.St} {H : Hp} (Pv : Nat → L2.St → Hp → Prop) (h0 : Pv 0 σ H) (go : ∀ i σ F, i < n → Pv i σ F → J.go i F) (halt : ∀ σ F, Pv n σ F → J.stop n F)
    (hs : ∀ i σ F x F', i < n → Pv i σ F → J.yld i F x F' → g x σ F' fun σ2 H2 => tb { D with nx := Pv (i + 1), ct := Pv (i + 1), bk := D.nx } σ2 H2) (hd : ∀ σ F, Pv n σ F → D.nx σ F) :
    ∃ W : Nat → Nat → L2.St → Hp → Prop, (∃ m, W 0 m σ H) ∧ ∀ i m σ F, W i m σ F →
      (J.stop i F ∧ D.nx σ F) ∨ (J.go i F ∧ ∃ N : L2.St → Hp → Prop, (∀ σ' F', N σ' F' → ∃ m', m' < m ∧ W (i + 1) m' σ' F') ∧ ∀ x F', J.yld i F x F' → g x σ F' fun σ2 H2 => tb { D with nx := N, ct := N, bk := D.nx } σ2 H2) := by
  refine ⟨fun i m σ F => m = n - i ∧ i ≤ n ∧ Pv i σ F, ⟨n, (Nat.sub_zero n).symm, Nat.zero_le _, h0⟩, ?_⟩
  rintro i m σ F ⟨rfl, hi, p⟩
  rcases Nat.lt_or_ge i n with lt | ge
  · exact .inr ⟨go i σ F lt p, Pv (i + 1), fun σ' F' p' => ⟨n - (i + 1), by omega, rfl, lt, p'⟩, fun x F' y => hs i σ F x F' lt p y⟩
  · obtain rfl : i = n := by omega
    exact .inl ⟨halt σ F p, hd σ F p⟩
end
end K1D

set_option Elab.async false
set_option linter.all false
set_option maxRecDepth 100000
set_option maxHeartbeats 4000000
/-! list(d) and sorted(d.items()) of a dict with nested keys. Speaks of no program. -/
namespace K1D
open PySem PySem.Spec PyProof.Rows L2
section
variable {X : Cx} {pn : List (Addr × Obj)} {σ : L2.St} {H : Hp} {s : Shared}
mutual
/-- read as data: no list on the way -/
theorem KeyV.reads (I : Inv X pn σ H s) : ∀ (k : NestedKey) (v : V) (u : Value), KeyV X.K H k v → RelV v u → Reads s.heap u k.data []
  | .none, _, _, h, r => by cases h; cases r; exact Reads.none
  | .num i, _, _, h, r => by
    cases h
    obtain ⟨t, rfl⟩ := r
    exact Reads.int i t
  | .text x, _, _, h, r => by
    cases h
    obtain ⟨t, rfl⟩ := r
    exact Reads.str x t
  | .tup ks, _, _, h, r => by
    cases h with
    | tup h1 h2 =>
      cases r
      obtain ⟨its, rv, ⟨o, ho, hc, n, hd⟩, _⟩ := I.tuple (SqT.of h1)
      exact Reads.tuple ho hc hd (KeyVs.reads I ks _ _ h2 rv)
theorem KeyVs.reads (I : Inv X pn σ H s) : ∀ (ks : List NestedKey) (vs : List V) (us : List Value), KeyVs X.K H ks vs → Vals vs us → ReadsAll s.heap us (NestedKey.datas ks) []
  | [], _, _, h, r => by cases h; cases r; exact ReadsAll.nil
  | k :: ks, _, _, h, r => by
    cases h with
    | cons h1 h2 =>
      cases r with
      | cons r1 r2 => exact ReadsAll.cons (KeyV.reads I k _ _ h1 r1) (KeyVs.reads I ks _ _ h2 r2)
end
/-! reading off a heap that keeps all objects -/
mutual
theorem Reads.kept0 {h h' : Heap} (kp : ∀ b o, h.get? b = some o → h'.get? b = some o) : ∀ (k : NestedKey) (u : Value), Reads h u k.data [] → Reads h' u k.data []
  | .none, _, r => by cases r; exact Reads.none
  | .num i, _, r => by cases r; exact Reads.int i _
  | .text x, _, r => by cases r; exact Reads.str x _
  | .tup ks, _, r => by
    have r' : Reads h _ (.tuple (NestedKey.datas ks)) [] := r
    cases r' with
    | tuple h1 h2 h3 h4 => exact Reads.tuple (kp _ _ h1) h2 h3 (ReadsAll.kept0 kp ks _ h4)
theorem ReadsAll.kept0 {h h' : Heap} (kp : ∀ b o, h.get? b = some o → h'.get? b = some o) : ∀ (ks : List NestedKey) (us : List Value), ReadsAll h us (NestedKey.datas ks) [] → ReadsAll h' us (NestedKey.datas ks) []
  | [], _, r => by
    have r' : ReadsAll h _ [] [] := r
    cases r'
    exact ReadsAll.nil
  | k :: ks, us, r => by
    have r' : ReadsAll h us (k.data :: NestedKey.datas ks) [] := r
    generalize hz : ([] : List Addr) = z at r'
    cases r' with
    | @cons v vs d ds as bs h1 h2 =>
      have e1 : as = [] := (List.append_eq_nil_iff.mp hz.symm).1
      have e2 : bs = [] := (List.append_eq_nil_iff.mp hz.symm).2
      subst e1 e2
      exact ReadsAll.cons (Reads.kept0 kp k _ h1) (ReadsAll.kept0 kp ks _ h2)
end
end
section
variable {X : Cx}
/-- list(d) -/
theorem call_list_dN (hc : X.calm = true) : CallR X (.type "list") (fun xs H Q => ∃ d kvs, xs = [V.ref d] ∧ Rd H d (dN X.w d kvs) ∧ ∀ p, H p = none → Q (.ref p) (upd H p (.lst (kvs.map fun x => V.ref x.2.1)))) := by
  intro pn s σ H xs us Q I r h
  obtain ⟨d, kvs, rfl, hd, q⟩ := h
  obtain ⟨u, rfl, rx⟩ := r.one
  cases rx
  obtain ⟨⟨z, hs, ks, rel, o, es, ep, ho, hx, hdt, he, _⟩, _⟩ := (show ObjOk X.prog X.w H s.heap d (dN X.w d kvs) from hd.ok I.hok)
  have l1 : es.toList.length = ks.length := by rw [he, List.length_map]
  rw [Array.length_toList] at l1
  have l2 : kvs.length = ks.length := Paired.length rel
  refine PySem.W.kdl_call (kdl_raw hs hx hdt) (I.ok.hd hc) ho (by omega) fun h' tk acc' c' kp e it => ?_
  have ent : ∀ (j : Nat) (en : DictEntry), es[j]? = some en → ∃ x : NE, kvs[j]? = some x ∧ en.key = Value.ref x.2.1 := by
    intro j en hj
    rw [← Array.getElem?_toList, he, List.getElem?_map] at hj
    obtain ⟨b, hb, eb⟩ := Option.map_eq_some_iff.mp hj
    have hjl : j < kvs.length := by rw [l2]; exact (List.getElem?_eq_some_iff.mp hb).1
    obtain ⟨u, hu, _⟩ := nr_get rel (List.getElem?_eq_getElem hjl)
    rw [hb] at hu
    refine ⟨_, List.getElem?_eq_getElem hjl, ?_⟩
    rw [← eb, Option.some.inj hu]
    all_goals rfl
  have ea : acc'.toList = (kvs.map fun x => x.2.1).map Value.ref := by
    have hl : acc'.toList.length = kvs.length := by rw [Array.length_toList, it.1]; omega
    apply List.ext_getElem?
    intro j
    rw [List.getElem?_map, List.getElem?_map]
    cases hj : acc'.toList[j]? with
    | none =>
      have h1 := List.getElem?_eq_none_iff.mp hj
      rw [List.getElem?_eq_none (by omega)]
      all_goals rfl
    | some v =>
      obtain ⟨en, hen, hv⟩ := it.2 j v (by rw [← Array.getElem?_toList]; exact hj)
      obtain ⟨x, hx', hk⟩ := ent j en hen
      rw [hx', hv, hk]
      all_goals rfl
  have rv : Vals ((kvs.map fun x => x.2.1).map V.ref) acc'.toList := by rw [ea]; exact vals_refs _
  have em : ((kvs.map fun x => x.2.1).map V.ref) = kvs.map fun x => V.ref x.2.1 := by rw [List.map_map]; all_goals rfl
  rw [em] at rv
  refine ⟨.ref s.heap.objs.size, _, I.laid (t' := tk) (o := .lst (kvs.map fun x => V.ref x.2.1)) kp (Nat.le_refl _) ?_, rfl, q _ (I.hok.fresh (Nat.le_refl _))⟩
  exact ⟨by rw [List.length_map]; exact z, acc'.toList, c', rv, by rw [Array.toArray_toList]; exact e⟩

/-! ### sorted(d.items()) -/
mutual
theorem key_depth : ∀ k : NestedKey, k.data.depth = k.depth
  | .none => rfl
  | .num _ => rfl
  | .text _ => rfl
  | .tup ks => by
    show PyData.depth (.tuple (NestedKey.datas ks)) = _
    simp only [PyData.depth, NestedKey.depth, keys_depth ks]
theorem keys_depth : ∀ ks : List NestedKey, PyData.depthAll (NestedKey.datas ks) = NestedKey.depthAll ks
  | [] => rfl
  | k :: ks => by
    show PyData.depthAll (k.data :: NestedKey.datas ks) = _
    simp only [PyData.depthAll, NestedKey.depthAll, key_depth k, keys_depth ks]
end
/-- the pairs of a dict whose values are ints -/
abbrev NI := NestedKey × Int
def pairK (x : NI) : NestedKey := .tup [x.1, .num x.2]
/-- d's pairs in their order, the places of the keys left out -/
def IntsN (kvs : List NE) (m : List NI) : Prop := kvs.map (fun x => (x.1, x.2.2)) = m.map fun x => (x.1, V.int x.2)
def rItemsN (w : World) : V → List V → Hp → VK → Prop := fun x xs H Q => ∃ (a : Addr) (kvs : List NE), x = .ref a ∧ xs = [] ∧ Rd H a (dN w a kvs) ∧ ∀ p, H p = none → Q (.ref p) (upd H p (DX.itemsO p a))
theorem mt_itemsN : MtR X "dict.items" (rItemsN X.w) := by
  intro pn s σ H x xs v us Q I rx rxs h
  obtain ⟨a, kvs, rfl, rfl, ha, q⟩ := h
  cases rx
  cases rxs
  obtain ⟨⟨z, hd, xs', rel, o, es, ep, ho, hx, hdat, _⟩, _⟩ := (show ObjOk X.prog X.w H s.heap a (dN X.w a kvs) from ha.ok I.hok)
  refine DT.callItems (es := es) (ep := ep) hd ⟨o, ho, hx, hdat⟩ ?_
  exact ⟨.ref s.heap.objs.size, _, I.laid (t' := s.toks) (fun b u e => Heap.get?_push_of_some _ e) (Nat.le_refl _) (DX.itemsO_ok (Heap.get?_push_size _ rfl)), rfl, q _ (I.hok.fresh (Nat.le_refl _))⟩
/-- sorted(d.items()), the values ints, the keys of one kind: the pairs, rising -/
def rSortN (K : PySem.W.Frag) (w : World) : List V → Hp → VK → Prop := fun vs H Q => ∃ (p a : Addr) (kvs : List NE) (m : List NI), vs = [.ref p] ∧ H p = some (DX.itemsO p a) ∧ Rd H a (dN w a kvs) ∧ KeysN K H kvs ∧ IntsN kvs m ∧
  (∀ x ∈ m, ∀ y ∈ m, PySem.W.alike x.1.data y.1.data = true) ∧
  ∀ (H' : Hp) (l : Addr) (xs : List V), (∀ b o, H b = some o → H' b = some o) → H' l = some (.lst xs) → KeyVs K H' ((m.mergeSort (PySem.W.dataLe false fun x => (pairK x).data)).map pairK) xs → Q (.ref l) H'
theorem ints_len {kvs : List NE} {m : List NI} (h : IntsN kvs m) : kvs.length = m.length := by
  have := congrArg List.length h
  simpa using this
theorem ints_at {kvs : List NE} {m : List NI} (h : IntsN kvs m) {j : Nat} {x : NE} (e : kvs[j]? = some x) : ∃ c, m[j]? = some (x.1, c) ∧ x.2.2 = V.int c := by
  have q : (kvs.map fun x => (x.1, x.2.2))[j]? = (m.map fun x => (x.1, V.int x.2))[j]? := by rw [h]
  rw [List.getElem?_map, List.getElem?_map, e] at q
  cases hm : m[j]? with
  | none => rw [hm] at q; cases q
  | some y =>
    rw [hm] at q
    have q2 : (x.1, x.2.2) = (y.1, V.int y.2) := Option.some.inj q
    obtain ⟨q3, q4⟩ := Prod.mk.inj q2
    exact ⟨y.2, by rw [q3], q4⟩
theorem each_of {α β : Type} {R : α → β → Prop} : ∀ {as : List α} {bs : List β}, as.length = bs.length → (∀ (j : Nat) (a : α) (b : β), as[j]? = some a → bs[j]? = some b → R a b) → PySem.W.EachIs R as bs
  | [], [], _, _ => .nil
  | a :: as, b :: bs, hl, h => .cons (h 0 a b rfl rfl) (each_of (by simpa using hl) fun j x y hx hy => h (j + 1) x y hx hy)
  | [], _ :: _, hl, _ => by simp at hl
  | _ :: _, [], hl, _ => by simp at hl
/-- the places of the items -/
theorem each_addr {β : Type} {T : Addr → β → Prop} : ∀ {vs : List Value} {bs : List β}, PySem.W.EachIs (fun v y => ∃ b : Addr, v = .ref b ∧ T b y) vs bs → ∃ cs : List Addr, vs = cs.map Value.ref ∧ PySem.W.EachIs T cs bs
  | _, _, .nil => ⟨[], rfl, .nil⟩
  | _, _, .cons ⟨c, e, hc⟩ t => by
    obtain ⟨cs, ecs, ht⟩ := each_addr t
    exact ⟨c :: cs, by rw [e, ecs]; rfl, .cons hc ht⟩
theorem each_keys {K : PySem.W.Frag} {H : Hp} {β : Type} (f : β → NestedKey) : ∀ {cs : List Addr} {bs : List β}, PySem.W.EachIs (fun c y => KeyV K H (f y) (.ref c)) cs bs → KeyVs K H (bs.map f) (cs.map V.ref)
  | _, _, .nil => .nil
  | _, _, .cons h t => .cons h (each_keys f t)
end
section
variable {X : Cx}
theorem cr_sortN (hc : X.calm = true) (hu : X.A.units + 64 < cLine) : CallR X (.builtin "sorted") (rSortN X.K X.w) := by
  intro pn s σ H xs us Q I r h
  obtain ⟨p, a, kvs, m, rfl, hp, ha, ks, hm, al, q⟩ := h
  obtain rfl := Vals.ref1 r
  have view : s.heap.IsItemsView p a := (show ObjOk X.prog X.w H s.heap p (DX.itemsO p a) from I.hok p _ hp).1
  obtain ⟨⟨z, hd, xs', rel, o, es, ep, ho, hx, hdat, he, _⟩, _⟩ := (show ObjOk X.prog X.w H s.heap a (dN X.w a kvs) from ha.ok I.hok)
  have l1 : es.toList.length = xs'.length := by rw [he, List.length_map]
  rw [Array.length_toList] at l1
  have l2 : kvs.length = xs'.length := Paired.length rel
  have l3 := ints_len hm
  refine DT.sortedI (es := es) (ep := ep) (I.ok.hd hc) view ⟨o, ho, hx, hdat⟩ (by omega) fun h' tk as hk hlt hl hG => ?_
  have nd : as.Nodup := List.Pairwise.imp (fun h => Nat.ne_of_lt h) hG.rise
  have lam : as.length = m.length := by omega
  -- each pair that was made
  have pr : ∀ (j : Nat) (b : Addr) (y : NI), as[j]? = some b → m[j]? = some y → ∃ (kq : Addr) (t : Tok), KeyV X.K H y.1 (.ref kq) ∧ y.1.depth ≤ 8 ∧ h'.get? b = some { cls := .type "tuple", data := .seq #[Value.ref kq, Value.int y.2 t] } := by
    intro j b y hj hy
    obtain ⟨en, hen, hg⟩ := hG.pairs j b hj
    have hjl : j < kvs.length := by rw [l3]; exact (List.getElem?_eq_some_iff.mp hy).1
    have hkv : kvs[j]? = some kvs[j] := List.getElem?_eq_getElem hjl
    obtain ⟨u, hxu, ru⟩ := nr_get rel hkv
    obtain ⟨c, hc', hv⟩ := ints_at hm hkv
    rw [hy] at hc'
    have ey : y = (kvs[j].1, c) := Option.some.inj hc'
    rw [hv] at ru
    obtain ⟨t, rfl⟩ := ru
    rw [← Array.getElem?_toList, he, List.getElem?_map, hxu] at hen
    have een : entN X.w (kvs[j].1, kvs[j].2.1, Value.int c t) = en := Option.some.inj hen
    obtain ⟨k1, k2⟩ := ks _ (List.getElem_mem hjl)
    refine ⟨kvs[j].2.1, t, by rw [ey]; exact k1, by rw [ey]; exact k2, ?_⟩
    rw [hg, ← een, ey]
    all_goals rfl
  have hob : (h'.push { cls := .type "list", data := .seq (as.map Value.ref).toArray }).get? h'.objs.size = some (seqObj "list" (as.map Value.ref).toArray 0) := Heap.get?_push_size _ rfl
  have ka : ∀ b o, h'.get? b = some o → (h'.push { cls := .type "list", data := .seq (as.map Value.ref).toArray }).get? b = some o := fun b o e => Heap.get?_push_of_some _ e
  have ne0 : ∀ b o, h'.get? b = some o → b ≠ h'.objs.size := fun b o e => Nat.ne_of_lt (Heap.lt_size e)
  generalize hh2 : h'.push { cls := .type "list", data := .seq (as.map Value.ref).toArray } = h2 at hob ka ⊢
  have kb : ∀ b o, s.heap.get? b = some o → h2.get? b = some o := fun b o e => ka b o (hk b o e)
  -- what an item stands for
  let Rt : Value → NI → Prop := fun v y => ∃ (j : Nat) (b : Addr), v = .ref b ∧ as[j]? = some b ∧ m[j]? = some y
  have e1 : PySem.W.EachIs Rt (as.map Value.ref) m := each_of (by rw [List.length_map]; exact lam) fun j v y hv hy => by
    rw [List.getElem?_map] at hv
    obtain ⟨b, hb, rfl⟩ := Option.map_eq_some_iff.mp hv
    exact ⟨j, b, rfl, hb, hy⟩
  have e2 : PySem.W.EachIs (fun v y => ∃ as', Reads h2 v (pairK y).data as' ∧ h'.objs.size ∉ as') (as.map Value.ref) m := e1.mono fun v y ⟨j, b, ev, hb, hy⟩ => by
    obtain ⟨kq, t, k1, k2, hg⟩ := pr j b y hb hy
    subst ev
    have r1 : Reads h2 (.ref kq) y.1.data [] := Reads.kept0 kb y.1 _ (k1.reads I _ _ _ rfl)
    have r2 : ReadsAll h2 [Value.ref kq, Value.int y.2 t] [y.1.data, .int y.2] [] := ReadsAll.cons r1 (ReadsAll.cons (Reads.int y.2 t) ReadsAll.nil)
    exact ⟨[], Reads.tuple (ka _ _ hg) rfl rfl r2, by simp⟩
  have hal : PySem.W.AllAlike (m.map fun x => (pairK x).data) := by
    intro d1 h1 d2 h2'
    obtain ⟨y1, m1, rfl⟩ := List.mem_map.mp h1
    obtain ⟨y2, m2, rfl⟩ := List.mem_map.mp h2'
    show PySem.W.alike (.tuple [y1.1.data, .int y1.2]) (.tuple [y2.1.data, .int y2.2]) = true
    simp only [PySem.W.alike, PySem.W.alikeAll, al y1 m1 y2 m2, Bool.and_self]
  have dep : ∀ y ∈ m, (pairK y).data.depth ≤ 9 := by
    intro y hy
    obtain ⟨j, hj⟩ := List.mem_iff_getElem?.mp hy
    have hjl : j < as.length := by rw [lam]; exact (List.getElem?_eq_some_iff.mp hj).1
    obtain ⟨_, _, _, k2, _⟩ := pr j _ y (List.getElem?_eq_getElem hjl) hj
    have e : ∀ k : NestedKey, k.data.depth = k.depth := key_depth
    show (PyData.tuple [y.1.data, .int y.2]).depth ≤ 9
    simp only [PyData.depth, PyData.depthAll, e]
    omega
  refine PySem.W.list_sort_data (s := { s with heap := h2, toks := tk }) hob e1 e2 hal (PySem.W.Sortable.tuples fun y => ⟨_, _, rfl⟩) (by omega) (fun y hy => ?_) fun out ol oe => ?_
  · have := dep y hy
    rw [Around.in1_units]
    omega
  · show EP X pn σ Q (.ref h'.objs.size) { s with heap := sortedHeap h2 h'.objs.size (as.map Value.ref) out.toArray, toks := tk }
    have kF : ∀ b o, b ≠ h'.objs.size → h2.get? b = some o → (sortedHeap h2 h'.objs.size (as.map Value.ref) out.toArray).get? b = some o := fun b o hb e => (PyProof.Rows.sortedHeap_old hb (Heap.lt_size e)).trans e
    have kS : ∀ b o, s.heap.get? b = some o → (sortedHeap h2 h'.objs.size (as.map Value.ref) out.toArray).get? b = some o := fun b o e => kF b o (ne0 _ _ (hk b o e)) (kb b o e)
    obtain ⟨eF, heF⟩ := PyProof.Rows.sortedHeap_at (vs := as.map Value.ref) (out := out.toArray) hob
    generalize hF : sortedHeap h2 h'.objs.size (as.map Value.ref) out.toArray = hf at kF kS heF ⊢
    have I1 : Inv X pn σ H { s with heap := hf, toks := tk } := I.kept (t' := tk) kS
    have hn0 : H h'.objs.size = none := I.hok.fresh (Nat.le_of_lt hlt)
    obtain ⟨cs, ecs, ecm⟩ := each_addr (T := fun b y => ∃ j : Nat, as[j]? = some b ∧ m[j]? = some y) (oe.mono fun v y ⟨j, b, ev, hb, hy⟩ => ⟨b, ev, j, hb, hy⟩)
    have lcs : cs.length = m.length := by rw [ecm.length, List.length_mergeSort]
    have I2 : Inv X pn σ (upd H h'.objs.size (.lst (cs.map V.ref))) { s with heap := hf, toks := tk } :=
      I1.take (h' := hf) (t' := tk) (fun b ob _ e => e) (I.fpOk (Nat.le_of_lt hlt) hn0) ⟨by rw [List.length_map]; omega, out, eF, by rw [ecs]; exact vals_refs _, heF⟩
    obtain ⟨H2, I3, g, qt⟩ := DX.takeT (P := fun b vs => ∃ (j : Nat) (y : NI) (kq : Addr), as[j]? = some b ∧ m[j]? = some y ∧ vs = [.ref kq, .int y.2] ∧ KeyV X.K H y.1 (.ref kq)) I as _ I2 nd fun b hb => by
      obtain ⟨j, hj⟩ := List.mem_iff_getElem?.mp hb
      have hjl : j < m.length := by rw [← lam]; exact (List.getElem?_eq_some_iff.mp hj).1
      have hy : m[j]? = some m[j] := List.getElem?_eq_getElem hjl
      obtain ⟨kq, t, k1, _, hg⟩ := pr j b _ hj hy
      have hbl : s.heap.objs.size ≤ b := Nat.le_of_lt (hG.above b hb)
      refine ⟨hbl, ?_, [.ref kq, .int m[j].2], ⟨j, m[j], kq, hj, hy, rfl, k1⟩, fun H3 => ⟨(by rw [sizeLine_eq]; show 2 ≤ 16777216; omega), [Value.ref kq, Value.int m[j].2 t], .cons rfl (.cons ⟨t, rfl⟩ .nil), ⟨_, kF _ _ (ne0 _ _ hg) (ka _ _ hg), rfl, 0, rfl⟩⟩⟩
      rw [upd_ne (ne0 _ _ hg)]
      exact I.hok.fresh hbl
    have gr : ∀ b o, H b = some o → H2 b = some o := fun b o e => g b o (by rw [upd_ne (ne_of_none e hn0)]; exact e)
    refine ⟨.ref h'.objs.size, H2, I3, rfl, q H2 h'.objs.size (cs.map V.ref) gr (g _ _ upd_same) (each_keys pairK (ecm.mono fun b y ⟨j, hb, hy⟩ => ?_))⟩
    obtain ⟨vs, ⟨j', y', kq, j1, j2, ev, k1⟩, hH⟩ := qt b (List.mem_of_getElem? hb)
    have eij : j = j' := (List.getElem?_inj (List.getElem?_eq_some_iff.mp hb).1 nd).mp (hb.trans j1.symm)
    subst eij
    have ee : y' = y := Option.some.inj (j2.symm.trans hy)
    rw [ee] at ev k1
    rw [ev] at hH
    exact .tup hH (.cons (k1.up (Tups.ext gr) _ _) (.cons (.int y.2) .nil))
end
/-- d.items(), a view -/
def tNItems (w : World) (td : TE) : TE := fun σ H Q => td σ H fun x G => ∃ (d : Addr) (kvs : List NE), x = .ref d ∧ Rd G d (dN w d kvs) ∧ ∀ p, G p = none → Q (.ref p) (upd G p (DX.itemsO p d))
theorem pe_nitemsV {X : Cx} {e : Expr} {td : TE} {ap cp : Pos} (he : PE X e td) (hbase : attributeBase e "items" X.env (eval e X.env) = eval e X.env := by rfl) (hline : (ap.endLine == cp.line) = true := by rfl) :
    PE X (.Call (.Attribute e "items" ap) [] [] cp) (tNItems X.w td) := ⟨fun pn s τ H Q I h => by
  refine wpAny_Call_method (T := "dict") (id := "dict.items") hbase rfl hline F.plainAttrs_dict F.slot_dict_items F.type_dict_items (thn (he.run pn s τ H _ I h) fun u s1 ⟨x, G, I1, rx, d, kvs, ex, hd, q⟩ => ?_)
  subst ex
  obtain rfl : u = Value.ref d := rx
  obtain ⟨⟨z, hs, xs', rel, o, es, ep, ho, hx, hdat, _⟩, _⟩ := (show ObjOk X.prog X.w G s1.heap d (dN X.w d kvs) from hd.ok I1.hok)
  have raw : s1.heap.DictRaw d es ep := ⟨o, ho, hx, hdat⟩
  refine ⟨raw.typeIs, fun b q => ?_, ?_⟩
  · cases q
    exact ⟨o, ho, hx.2.1⟩
  show wpAny _ _ (callWith cp (.builtin "dict.items") [.ref d] [] []) _ X.xe s1
  refine method_meetsIn F.slot_dict_items F.entry_dict_items rfl (PySem.evalArgs_none ⟨rfl, raw.typeIs, F.args_dict_items_1 _, _, meets_dict_items_raw d hs, ⟨es, ep, raw⟩, ?_⟩)
  exact ⟨.ref s1.heap.objs.size, _, I1.laid (t' := s1.toks) (fun b u e => Heap.get?_push_of_some _ e) (Nat.le_refl _) (DX.itemsO_ok (Heap.get?_push_size _ rfl)), rfl, q _ (I1.hok.fresh (Nat.le_refl _))⟩⟩
end K1D

set_option Elab.async false
set_option linter.all false
set_option maxRecDepth 100000
set_option maxHeartbeats 4000000
/-! Dicts of nested keys whose values are ints, and lists of such pairs. Speaks of no program. -/
namespace K1D
open PySem PySem.Spec PyProof.Rows L2
def valI (m : List NI) (k : NestedKey) : Option Int := (m.find? fun x => decide (x.1 = k)).map (·.2)
def putI (m : List NI) (k : NestedKey) (c : Int) : List NI := if (valI m k).isSome then m.map fun x => if x.1 = k then (x.1, c) else x else m ++ [(k, c)]
def dropI (m : List NI) (k : NestedKey) : List NI := m.filter fun x => decide (x.1 ≠ k)
def keysI (m : List NI) : List NestedKey := m.map (·.1)
theorem ints_nil {m : List NI} (h : IntsN [] m) : m = [] := by
  cases m with
  | nil => rfl
  | cons x r => cases h
theorem ints_cons {x : NE} {kvs : List NE} {m : List NI} (h : IntsN (x :: kvs) m) : ∃ c r, m = (x.1, c) :: r ∧ x.2.2 = V.int c ∧ IntsN kvs r := by
  cases m with
  | nil => cases h
  | cons y r =>
    have h' : (x.1, x.2.2) :: kvs.map (fun x => (x.1, x.2.2)) = (y.1, V.int y.2) :: r.map fun x => (x.1, V.int x.2) := h
    injection h' with h1 h2
    obtain ⟨h3, h4⟩ := Prod.mk.inj h1
    exact ⟨y.2, r, by rw [h3], h4, h2⟩
theorem ints_mk {x : NE} {kvs : List NE} {c : Int} {m : List NI} (e : x.2.2 = V.int c) (h : IntsN kvs m) : IntsN (x :: kvs) ((x.1, c) :: m) := by
  show (x.1, x.2.2) :: kvs.map (fun x => (x.1, x.2.2)) = (x.1, V.int c) :: m.map fun x => (x.1, V.int x.2)
  rw [e, show kvs.map (fun x => (x.1, x.2.2)) = m.map fun x => (x.1, V.int x.2) from h]
theorem ints_val : ∀ {kvs : List NE} {m : List NI}, IntsN kvs m → ∀ k, valN kvs k = (valI m k).map V.int
  | [], m, h, k => by rw [ints_nil h]; rfl
  | x :: kvs, m, h, k => by
    obtain ⟨c, r, rfl, e, t⟩ := ints_cons h
    have ih := ints_val t k
    unfold valN valI at *
    rw [List.find?_cons, List.find?_cons]
    by_cases z : x.1 = k
    · rw [decide_eq_true z]
      simp [e]
    · rw [decide_eq_false z]
      exact ih
theorem ints_repl (k : NestedKey) (c : Int) : ∀ {kvs : List NE} {m : List NI}, IntsN kvs m → IntsN (kvs.map fun x => if x.1 = k then (x.1, x.2.1, V.int c) else x) (m.map fun x => if x.1 = k then (x.1, c) else x)
  | [], m, h => by rw [ints_nil h]; rfl
  | x :: kvs, m, h => by
    obtain ⟨c', r, rfl, e, t⟩ := ints_cons h
    rw [List.map_cons, List.map_cons]
    by_cases z : x.1 = k
    · rw [if_pos z, if_pos (show ((x.1, c') : NI).1 = k from z)]
      exact ints_mk (x := (x.1, x.2.1, V.int c)) rfl (ints_repl k c t)
    · rw [if_neg z, if_neg (show ¬ ((x.1, c') : NI).1 = k from z)]
      exact ints_mk e (ints_repl k c t)
theorem ints_app : ∀ {kvs ls : List NE} {m n : List NI}, IntsN kvs m → IntsN ls n → IntsN (kvs ++ ls) (m ++ n) := fun {kvs ls m n} h g => by
  show (kvs ++ ls).map _ = (m ++ n).map _
  rw [List.map_append, List.map_append]
  exact congr (congrArg _ h) g
theorem ints_put {kvs : List NE} {m : List NI} (h : IntsN kvs m) (k : NestedKey) (b : Addr) (c : Int) : IntsN (putN kvs k b (.int c)) (putI m k c) := by
  unfold putN putI
  rw [ints_val h k, Option.isSome_map]
  split
  · exact ints_repl k c h
  · exact ints_app h (ints_mk (x := (k, b, V.int c)) rfl rfl)
theorem ints_drop (k : NestedKey) : ∀ {kvs : List NE} {m : List NI}, IntsN kvs m → IntsN (dropN kvs k) (dropI m k)
  | [], m, h => by rw [ints_nil h]; rfl
  | x :: kvs, m, h => by
    obtain ⟨c, r, rfl, e, t⟩ := ints_cons h
    unfold dropN dropI
    rw [List.filter_cons, List.filter_cons]
    by_cases z : x.1 = k
    · rw [if_neg (by simp [z]), if_neg (by simp [z])]
      exact ints_drop k t
    · rw [if_pos (by simp [z]), if_pos (by simp [z])]
      exact ints_mk e (ints_drop k t)
/-! ### the lists alone -/
theorem valI_nil (k : NestedKey) : valI [] k = none := rfl
theorem valI_cons (x : NI) (m : List NI) (k : NestedKey) : valI (x :: m) k = if x.1 = k then some x.2 else valI m k := by
  unfold valI
  rw [List.find?_cons]
  by_cases z : x.1 = k
  · rw [decide_eq_true z, if_pos z]; rfl
  · rw [decide_eq_false z, if_neg z]
theorem valI_none {m : List NI} {k : NestedKey} : valI m k = none ↔ k ∉ keysI m := by
  induction m with
  | nil => simp [valI, keysI]
  | cons x m ih =>
    rw [valI_cons]
    unfold keysI at *
    rw [List.map_cons, List.mem_cons]
    by_cases z : x.1 = k
    · rw [if_pos z]; simp [z]
    · rw [if_neg z, ih]
      constructor
      · intro h q
        rcases q with q | q
        · exact z q.symm
        · exact h q
      · intro h q
        exact h (.inr q)
theorem valI_mem {m : List NI} (nd : (keysI m).Nodup) {k : NestedKey} {c : Int} : valI m k = some c ↔ (k, c) ∈ m := by
  induction m with
  | nil => simp [valI]
  | cons x m ih =>
    have nd' : x.1 ∉ keysI m ∧ (keysI m).Nodup := List.nodup_cons.mp nd
    rw [valI_cons, List.mem_cons]
    by_cases z : x.1 = k
    · rw [if_pos z]
      constructor
      · intro h
        exact .inl (Prod.ext z.symm (Option.some.inj h).symm)
      · intro h
        rcases h with h | h
        · rw [← h]
        · exact absurd (show x.1 ∈ keysI m from by rw [z]; exact List.mem_map.mpr ⟨_, h, rfl⟩) nd'.1
    · rw [if_neg z, ih nd'.2]
      constructor
      · exact .inr
      · intro h
        rcases h with h | h
        · exact absurd (by rw [← h]) z
        · exact h
theorem valI_put (m : List NI) (k : NestedKey) (c : Int) (j : NestedKey) : valI (putI m k c) j = if j = k then some c else valI m j := by
  unfold putI
  by_cases s : (valI m k).isSome = true
  · rw [if_pos s]
    have key : ∀ l : List NI, (valI l k).isSome = true ∨ j ≠ k → valI (l.map fun x => if x.1 = k then (x.1, c) else x) j = if j = k then some c else valI l j := by
      intro l
      induction l with
      | nil =>
        intro h
        rcases h with h | h
        · cases h
        · rw [if_neg h]; rfl
      | cons x l ih =>
        intro h
        rw [List.map_cons, valI_cons, valI_cons]
        by_cases z : x.1 = k
        · rw [if_pos z]
          by_cases y : j = k
          · rw [if_pos y, if_pos (by rw [z, y])]
          · rw [if_neg y, if_neg (by rw [z]; exact fun q => y q.symm), if_neg (by rw [z]; exact fun q => y q.symm), ih (.inr y), if_neg y]
        · rw [if_neg z]
          by_cases y : j = k
          · rw [if_pos y, if_neg (by rw [y]; exact z), ih (by
              rw [valI_cons, if_neg z] at h
              exact h), if_pos y]
          · rw [if_neg y]
            by_cases u : x.1 = j
            · rw [if_pos u, if_pos u]
            · rw [if_neg u, if_neg u, ih (.inr y), if_neg y]
    exact key m (.inl s)
  · rw [if_neg s]
    have sn : valI m k = none := by
      cases h : valI m k with
      | none => rfl
      | some v => rw [h] at s; exact absurd rfl s
    have key : ∀ l : List NI, valI (l ++ [(k, c)]) j = (valI l j).or (if j = k then some c else none) := by
      intro l
      induction l with
      | nil =>
        rw [List.nil_append, valI_cons]
        by_cases y : j = k
        · rw [if_pos y, if_pos (show ((k, c) : NI).1 = j from y.symm)]; rfl
        · rw [if_neg y, if_neg (show ¬ ((k, c) : NI).1 = j from fun q => y q.symm)]; rfl
      | cons x l ih =>
        rw [List.cons_append, valI_cons, valI_cons]
        by_cases u : x.1 = j
        · rw [if_pos u, if_pos u]; rfl
        · rw [if_neg u, if_neg u, ih]
    rw [key m]
    by_cases y : j = k
    · rw [if_pos y, if_pos y, y, sn]; rfl
    · rw [if_neg y, if_neg y]
      cases valI m j <;> rfl
theorem valI_drop (m : List NI) (k j : NestedKey) : valI (dropI m k) j = if j = k then none else valI m j := by
  induction m with
  | nil => rw [show dropI [] k = [] from rfl, valI_nil]; split <;> rfl
  | cons x m ih =>
    unfold dropI at *
    rw [List.filter_cons]
    by_cases z : x.1 = k
    · rw [if_neg (by simp [z]), ih, valI_cons]
      by_cases y : j = k
      · rw [if_pos y, if_pos y]
      · rw [if_neg y, if_neg y, if_neg (by rw [z]; exact fun q => y q.symm)]
    · rw [if_pos (by simp [z]), valI_cons, valI_cons, ih]
      by_cases y : j = k
      · rw [if_pos y, if_pos y, if_neg (by rw [y]; exact z)]
      · rw [if_neg y, if_neg y]
theorem keysI_put (m : List NI) (k : NestedKey) (c : Int) : keysI (putI m k c) = if (valI m k).isSome then keysI m else keysI m ++ [k] := by
  unfold putI keysI
  split
  · rw [List.map_map]
    refine List.map_congr_left fun x hx => ?_
    show (if x.1 = k then (x.1, c) else x).1 = x.1
    split <;> rfl
  · rw [List.map_append]; rfl
theorem nodup_put {m : List NI} (nd : (keysI m).Nodup) (k : NestedKey) (c : Int) : (keysI (putI m k c)).Nodup := by
  rw [keysI_put]
  split
  · exact nd
  · rename_i h
    refine List.nodup_append.mpr ⟨nd, by simp, fun a ha b hb => ?_⟩
    rw [List.mem_singleton] at hb
    subst hb
    rintro rfl
    have : valI m a = none := by
      cases q : valI m a with
      | none => rfl
      | some v => rw [q] at h; exact absurd rfl h
    exact valI_none.mp this ha
theorem nodup_drop {m : List NI} (nd : (keysI m).Nodup) (k : NestedKey) : (keysI (dropI m k)).Nodup := nd.sublist (List.filter_sublist.map _)
theorem len_put (m : List NI) (k : NestedKey) (c : Int) : (putI m k c).length ≤ m.length + 1 := by
  unfold putI
  split
  · rw [List.length_map]; omega
  · rw [List.length_append]; exact Nat.le_refl _
theorem len_drop (m : List NI) (k : NestedKey) : (dropI m k).length ≤ m.length := List.length_filter_le _ _
/-- at d a dict, its pairs m in their order -/
def DictI (K : PySem.W.Frag) (w : World) (H : Hp) (d : Addr) (m : List NI) : Prop := ∃ kvs : List NE, H d = some (dN w d kvs) ∧ KeysN K H kvs ∧ IntsN kvs m ∧ (keysI m).Nodup
theorem DictI.up {K : PySem.W.Frag} {w : World} {H H' : Hp} {d : Addr} {m : List NI} (h : DictI K w H d m) (e : ∀ a o, H a = some o → H' a = some o) : DictI K w H' d m :=
  let ⟨kvs, h1, h2, h3⟩ := h; ⟨kvs, e _ _ h1, h2.up (Tups.ext e), h3⟩
/-- keys and values of m, all keys of one kind -/
theorem keysN_mem {K : PySem.W.Frag} {H : Hp} {kvs : List NE} {m : List NI} (ks : KeysN K H kvs) (h : IntsN kvs m) {j : Nat} {y : NI} (hy : m[j]? = some y) : ∃ e, kvs[j]? = some e ∧ e.1 = y.1 ∧ e.2.2 = V.int y.2 ∧ KeyV K H y.1 (.ref e.2.1) ∧ y.1.depth ≤ 8 := by
  have hl := ints_len h
  have hj : j < kvs.length := by rw [hl]; exact (List.getElem?_eq_some_iff.mp hy).1
  have hk : kvs[j]? = some kvs[j] := List.getElem?_eq_getElem hj
  obtain ⟨c, hc, hv⟩ := ints_at h hk
  rw [hy] at hc
  have e : y = (kvs[j].1, c) := Option.some.inj hc
  obtain ⟨k1, k2⟩ := ks _ (List.getElem_mem hj)
  exact ⟨_, hk, by rw [e], by rw [e]; exact hv, by rw [e]; exact k1, by rw [e]; exact k2⟩
end K1D

set_option Elab.async false
set_option linter.all false
set_option maxRecDepth 100000
set_option maxHeartbeats 4000000
/-! figurehold.tables over dicts of nested keys: number, scaled, plus, minus. -/
namespace K1P
open PySem L2 K1D
def top (i : Nat) : Stmt := PySem.Challenge.pw_figurehold_k01_sums_of_polynomials.main.body.getD i (.Pass ⟨0, 0, 0, 0⟩)
abbrev sNumber : Stmt := top 4
abbrev sScaled : Stmt := top 5
abbrev sPlus : Stmt := top 6
abbrev sMinus : Stmt := top 7
theorem ifY {b : Bool} {A B : Prop} (e : b = true) (h : A) : if b = true then A else B := by rw [if_pos e]; exact h
theorem ifN {b : Bool} {A B : Prop} (e : b = false) (h : B) : if b = true then A else B := by rw [e]; exact h
theorem hu8 {A : Around} {k : Nat} (hr : Room k A) : A.units + 8 < cLine := by have := hr.un; omega
theorem hu9 {A : Around} {k : Nat} (hr : Room k A) : A.units + 9 < cLine := by have := hr.un; omega
theorem putI_new {m : List NI} {k : NestedKey} (c : Int) (h : k ∉ keysI m) : putI m k c = m ++ [(k, c)] := by
  unfold putI
  rw [valI_none.mpr h]
  rfl
/-- one pair more -/
theorem put_take {m : List NI} (nd : (keysI m).Nodup) (f : NI → Int) {i : Nat} {y : NI} (h : m[i]? = some y) : putI ((m.take i).map fun x => (x.1, f x)) y.1 (f y) = (m.take (i + 1)).map fun x => (x.1, f x) := by
  have lt : i < m.length := (List.getElem?_eq_some_iff.mp h).1
  have hy : m[i] = y := (List.getElem?_eq_some_iff.mp h).2
  rw [putI_new, List.take_succ_eq_append_getElem lt, List.map_append, hy]
  · rfl
  · intro q
    unfold keysI at q nd
    rw [List.map_map] at q
    obtain ⟨x, hx, ex⟩ := List.mem_map.mp q
    obtain ⟨j, hj⟩ := List.mem_iff_getElem?.mp hx
    rw [List.getElem?_take] at hj
    split at hj
    · rename_i lj
      have e1 : (m.map (·.1))[j]? = some y.1 := by rw [List.getElem?_map, hj]; exact congrArg some ex
      have e2 : (m.map (·.1))[i]? = some y.1 := by rw [List.getElem?_map, h]; rfl
      have := (List.getElem?_inj (List.getElem?_eq_some_iff.mp e1).1 nd).mp (e1.trans e2.symm)
      omega
    · cases hj
/-- d is locked, all else stands -/
def Lk (d : Addr) (od : Obj) (u : HO) (H F : Hp) : Prop := F d = some (.frz od u) ∧ ∀ a o, a ≠ d → H a = some o → F a = some o
theorem Lk.tups {K : PySem.W.Frag} {w : World} {d : Addr} {od : Obj} {kvs : List NE} {H F : Hp} (h : Lk d od (dN w d kvs) H F) (hd : H d = some (dN w d kvs)) : Tups K H F := fun a xs q =>
  h.2 _ _ (fun z => not_tup_dN hd xs (.inl (by rw [← z]; exact q))) q
theorem Lk.new {d q : Addr} {od : Obj} {u o : HO} {H F : Hp} (h : Lk d od u H F) (n : F q = none) : Lk d od u H (upd F q o) :=
  ⟨(upd_ne (ne_of_none h.1 n)).trans h.1, fun a x ne e => (upd_ne (ne_of_none (h.2 a x ne e) n)).trans (h.2 a x ne e)⟩
theorem Lk.set {d q : Addr} {od : Obj} {u o : HO} {H F : Hp} (h : Lk d od u H F) (nq : q ≠ d) (n : H q = none) : Lk d od u H (upd F q o) :=
  ⟨(upd_ne (Ne.symm nq)).trans h.1, fun a x ne e => (upd_ne (ne_of_none e n)).trans (h.2 a x ne e)⟩
theorem Lk.start {d : Addr} {od : Obj} {u : HO} {H : Hp} : Lk d od u H (upd H d (.frz od u)) := ⟨upd_same, fun a o ne e => (upd_ne ne).trans e⟩
theorem Lk.done {d : Addr} {od : Obj} {u : HO} {H F : Hp} (h : Lk d od u H F) (hd : H d = some u) : Same H (upd F d u) := fun a o e => by
  by_cases z : a = d
  · subst z
    rw [hd] at e
    rw [upd_same]
    exact e
  · rw [upd_ne z]
    exact h.2 a o z e
/-- number(k) -/
def numK (k : Int) : List (Key × V) := if k = 0 then [] else [(.inl 0, .int k)]
def spNumber : Sp := fun vs H Q _ => ∃ k : Int, vs = [.int k] ∧ ∀ (d : Addr) (H' : Hp), Same H H' → H d = none → H' d = some (.dK (numK k)) → Q (.ref d) H'
section
variable {P : Program} {w : World} {K : PySem.W.Frag} {mg : Str → Option Value} {base : Heap}
theorem scNumber : FnScope ["k"] ["k"] (defScope sNumber) := ⟨rfl, rfl, rfl, by decide +kernel, rfl, by decide +kernel, by decide +kernel⟩
theorem ok_number {f : Addr} {fd : FuncData} (F : Fun K "number" "number" sNumber f fd) : FnOk P w K mg base CX0 1 f fd ["k"] spNumber := by
  refine F.ok scNumber (fun vs H Q E h => ?_) (fun cdv A outer s H vs Q E hr h => ?_)
  · obtain ⟨k, rfl, _⟩ := h
    rfl
  · obtain ⟨k, rfl, go⟩ := h
    refine ⟨_, pss_one (ps_ret (pe_ifExp (pt_cmpR op_ne (pv 0) pe_int (nomark _)) (pe_disp (pps_cons pe_int (pv 0) pps_nil) rfl rfl (by simp) (by decide)) pe_dnewK)), ?_⟩
    refine ⟨_, rfl, rfl, _, rfl, ?_⟩
    by_cases z : k = 0
    · subst z
      refine ifN (by decide) (fun p hp => go p _ (fun b o e => (upd_ne (ne_of_none e hp)).trans e) hp ?_)
      rw [upd_same]; rfl
    · refine ifY (by simp [z]) (fun p hp => ?_)
      refine ⟨_, rfl, upd_same, [(.inl 0, .int k)], rfl, by show 1 ≤ 15; omega, ?_⟩
      rw [upd_upd]
      refine go p _ (fun b o e => (upd_ne (ne_of_none e hp)).trans e) hp ?_
      rw [upd_same]
      unfold numK
      rw [if_neg z]
      rfl
/-- scaled(p, k), k not 0 and small -/
def spScaled (K : PySem.W.Frag) (w : World) : Sp := fun vs H Q _ => ∃ (d : Addr) (k : Int) (m : List NI), vs = [.ref d, .int k] ∧ k ≠ 0 ∧ -(2 ^ 64) < k ∧ k < 2 ^ 64 ∧ DictI K w H d m ∧ m.length < sizeLine ∧
  ∀ (d' : Addr) (H' : Hp), Same H H' → H d' = none → DictI K w H' d' (m.map fun x => (x.1, x.2 * k)) → Q (.ref d') H'
theorem scScaled : FnScope ["p", "k", "key", "many"] ["p", "k"] (defScope sScaled) := ⟨rfl, rfl, rfl, by decide +kernel, rfl, by decide +kernel, by decide +kernel⟩
theorem keysI_map (m : List NI) (f : Int → Int) : keysI (m.map fun x => (x.1, f x.2)) = keysI m := by
  unfold keysI
  rw [List.map_map]
  rfl
theorem ok_scaled {f : Addr} {fd : FuncData} (F : Fun K "scaled" "scaled" sScaled f fd) : FnOk P w K mg base CX0 1 f fd ["p", "k"] (spScaled K w) := by
  refine F.ok scScaled (fun vs H Q E h => ?_) (fun cdv A outer s H vs Q E hr h => ?_)
  · obtain ⟨d, k, m, rfl, _⟩ := h
    rfl
  · obtain ⟨d, k, m, rfl, k0, k1, k2, ⟨kvs, hd, ks, im, nd⟩, hl, go⟩ := h
    refine ⟨_, pss_cons (ps_if (pt_cmpR op_eq (pv 1) pe_int (nomark _)) pss_never pss_nil)
      (pss_one (ps_lock (ps_ret (pe_ndc (own := [("key", 2), ("many", 3)]) (g := gTup K 2 (gCons (gName 2) (gCons (gName 3) gNil))) (hu8 hr) rfl scScaled.nd (pi_nitems (pv 0)) (blkOk_by (own := [("key", 2), ("many", 3)]) (N := ["p", "k", "key", "many"]) (sc := defScope sScaled) (by decide +kernel))
        (fun _ _ _ _ _ => pg_tup rfl (pgs_cons (pg_name (i := 2) scScaled.nd rfl (Or.inl rfl)) (pgs_cons (pg_name (i := 3) scScaled.nd rfl (Or.inl rfl)) pgs_nil))) (fun _ _ _ _ _ => pts_nil)
        (fun _ _ _ _ _ => pv 2) (fun _ _ _ _ _ => pe_op op_mul (pv 3) (pv 1)))))), ?_⟩
    refine ⟨_, rfl, rfl, _, rfl, ifN (by simp [k0]) ?_⟩
    refine ⟨d, _, hd, True.intro, fun od => ?_⟩
    refine ⟨_, rfl, d, od, kvs, rfl, upd_same, fun D nD => ?_⟩
    have Dd : D ≠ d := fun z => by rw [z, upd_same] at nD; cases nD
    rw [upd_ne Dd] at nD
    have ll := ints_len im
    refine blk_n (o := fun D => dN w D []) (n := kvs.length) (fun (i : Nat) (F : Hp) => Lk d od (dN w d kvs) H F ∧ ∃ ls : List NE, F D = some (dN w D ls) ∧ KeysN K F ls ∧ IntsN ls ((m.take i).map fun x : NI => (x.1, x.2 * k)))
      ⟨Lk.start.set Dd nD, [], upd_same, (fun x hx => by cases hx), rfl⟩ (fun i F hi ⟨l, _⟩ => ⟨l.1, hi⟩) (fun F ⟨l, _⟩ => ⟨l.1, Nat.le_refl _⟩) (fun i F x F' hi ⟨l, ls, h1, h2, h3⟩ hy => ?_) (fun F ⟨l, ls, h1, h2, h3⟩ => ?_)
    · obtain ⟨T, e, he, rfl, nT, rfl⟩ := hy
      obtain ⟨c, hc, hv⟩ := ints_at im he
      obtain ⟨k3, k4⟩ := ks e (List.mem_of_getElem? he)
      have l2 := l.new (o := .tup [.ref e.2.1, e.2.2]) nT
      have TD : D ≠ T := ne_of_none h1 nT
      have h1' : upd F T (.tup [.ref e.2.1, e.2.2]) D = some (dN w D ls) := (upd_ne TD).trans h1
      have h2' : KeysN K (upd F T (.tup [.ref e.2.1, e.2.2])) ls := h2.up (Tups.put (not_tup_none nT))
      have hT : upd F T (.tup [.ref e.2.1, e.2.2]) T = some (.tup [.ref e.2.1, e.2.2]) := upd_same
      generalize upd F T (.tup [.ref e.2.1, e.2.2]) = G at l2 h1' h2' hT ⊢
      have hlen : ls.length < sizeLine := by
        have := ints_len h3
        rw [List.length_map, List.length_take] at this
        omega
      have key : KeyV K G e.1 (.ref e.2.1) := k3.up (l2.tups hd) _ _
      refine ⟨T, _, rfl, SqT.of hT, rfl, _, _, rfl, _, _, rfl, rfl, rfl, ⟨_, rfl, _, rfl, _, rfl, c, k, hv, rfl, .inr ⟨k1, k2⟩, ls, e.1, e.2.1, rfl, h1', h2', hlen, key, k4, l2.set Dd nD, _, upd_same, ?_, ?_⟩⟩
      · exact (h2'.put key k4).up (Tups.put (not_tup_dN h1'))
      · have := ints_put h3 e.1 e.2.1 (c * k)
        rw [show putI ((m.take i).map fun x => (x.1, x.2 * k)) e.1 (c * k) = (m.take (i + 1)).map fun x => (x.1, x.2 * k) from put_take nd (fun x => x.2 * k) hc] at this
        exact this
    · refine ⟨l.1, go D _ (l.done hd) nD ⟨ls, (upd_ne Dd).trans h1, h2.up (fun a xs q => (upd_ne (fun z => by rw [z, l.1] at q; cases q)).trans q), ?_, ?_⟩⟩
      · rw [ll, List.take_length] at h3
        exact h3
      · rw [keysI_map m (· * k)]
        exact nd
end
end K1P

set_option Elab.async false
set_option linter.all false
set_option maxRecDepth 100000
set_option maxHeartbeats 4000000
/-! figurehold.tables.plus, minus. -/
namespace K1P
open PySem L2 K1D
/-- one pair more in the sum -/
def plusOne (m : List NI) (x : NI) : List NI := if (valI m x.1).getD 0 + x.2 ≠ 0 then putI m x.1 ((valI m x.1).getD 0 + x.2) else dropI m x.1
def plusI (m n : List NI) : List NI := n.foldl plusOne m
theorem nodup_plusOne {m : List NI} (nd : (keysI m).Nodup) (x : NI) : (keysI (plusOne m x)).Nodup := by
  unfold plusOne
  split
  · exact nodup_put nd _ _
  · exact nodup_drop nd _
theorem nodup_plusI {n : List NI} : ∀ {m : List NI}, (keysI m).Nodup → (keysI (plusI m n)).Nodup := by
  induction n with
  | nil => exact fun h => h
  | cons x n ih => exact fun h => ih (nodup_plusOne h x)
theorem len_plusOne (m : List NI) (x : NI) : (plusOne m x).length ≤ m.length + 1 := by
  unfold plusOne
  split
  · exact len_put _ _ _
  · exact Nat.le_succ_of_le (len_drop _ _)
theorem len_plusI (n : List NI) : ∀ m : List NI, (plusI m n).length ≤ m.length + n.length := by
  induction n with
  | nil => exact fun m => Nat.le_refl _
  | cons x n ih =>
    intro m
    have h1 := ih (plusOne m x)
    have h2 := len_plusOne m x
    show (plusI (plusOne m x) n).length ≤ _
    rw [List.length_cons]
    omega
theorem plusI_take {n : List NI} {i : Nat} {x : NI} (h : n[i]? = some x) (m : List NI) : plusI m (n.take (i + 1)) = plusOne (plusI m (n.take i)) x := by
  have lt : i < n.length := (List.getElem?_eq_some_iff.mp h).1
  have e : n[i] = x := (List.getElem?_eq_some_iff.mp h).2
  unfold plusI
  rw [List.take_succ_eq_append_getElem lt, List.foldl_append, e]
  rfl
/-- plus(p, q), no value of q's 0 -/
def spPlus (K : PySem.W.Frag) (w : World) : Sp := fun vs H Q _ => ∃ (d e : Addr) (m n : List NI), vs = [.ref d, .ref e] ∧ DictI K w H d m ∧ DictI K w H e n ∧ m.length + n.length < sizeLine ∧ (∀ x ∈ n, x.2 ≠ 0) ∧
  ∀ (d' : Addr) (H' : Hp), Same H H' → H d' = none → DictI K w H' d' (plusI m n) → Q (.ref d') H'
section
variable {P : Program} {w : World} {K : PySem.W.Frag} {mg : Str → Option Value} {base : Heap}
theorem scPlus : FnScope ["p", "q", "key", "out", "many", "both"] ["p", "q"] (defScope sPlus) := ⟨rfl, rfl, rfl, by decide +kernel, rfl, by decide +kernel, by decide +kernel⟩
theorem not_tup_frz {H : Hp} {w : World} {d : Addr} {od : Obj} {kvs : List NE} (h : H d = some (.frz od (dN w d kvs))) : ∀ xs, ¬ Rd H d (.tup xs) := fun xs q => by
  rcases q with q | ⟨o, q⟩
  · rw [h] at q; cases q
  · rw [h] at q
    have z : dN w d kvs = .tup xs := by
      injection q with q
      injection q
    cases z
theorem back_tups {H : Hp} {w : World} {d : Addr} {od : Obj} {kvs : List NE} (h : H d = some (.frz od (dN w d kvs))) : Tups K H (upd H d (dN w d kvs)) := Tups.put (not_tup_frz h)
theorem ok_plus {f : Addr} {fd : FuncData} (F : Fun K "plus" "plus" sPlus f fd) : FnOk P w K mg base CX0 1 f fd ["p", "q"] (spPlus K w) := by
  refine F.ok scPlus (fun vs H Q E h => ?_) (fun cdv A outer s H vs Q E hr h => ?_)
  · obtain ⟨d, e, m, n, rfl, _⟩ := h
    rfl
  · obtain ⟨d, e, m, n, rfl, ⟨kvs, hd, ks, im, nd⟩, ⟨lvs, he, ls, il, ne⟩, hl, nz, go⟩ := h
    refine ⟨_, pss_cons (ps_lock (ps_setNdc (i := 3) (own := [("key", 2)]) (g := gName 2) (tv := tNGet K w (tVar 0) (tVar 2)) (hu8 hr) rfl scPlus.nd rfl rfl rfl (pi_nkeys (pv 0)) (blkOk_by (own := [("key", 2)]) (N := ["p", "q", "key", "out", "many", "both"]) (sc := defScope sPlus) (by decide +kernel))
        (fun _ _ _ _ _ => pg_name (i := 2) scPlus.nd rfl (Or.inl rfl)) (fun _ _ _ _ _ => pts_nil) (fun _ _ _ _ _ => pv 2) (fun _ _ _ _ _ => pe_nget (hu9 hr) (pv 0) (pv 2) (fun _ _ => rfl))))
      (pss_cons (ps_lock (ps_for PassesOwn.never rfl (pi_nitems (pv 1)) (pg_tup rfl (pgs_cons (pg_name (i := 2) scPlus.nd rfl (Or.inl rfl)) (pgs_cons (pg_name (i := 4) scPlus.nd rfl (Or.inl rfl)) pgs_nil)))
        (pss_cons (ps_set (i := 5) scPlus.nd rfl (Or.inl rfl) (pe_op op_add (pe_nget2 (hu9 hr) (pv 3) (pv 2) pe_int ⟨rfl, rfl, rfl, rfl⟩) (pv 4)))
          (pss_one (ps_if (pt_cmpR op_ne (pv 5) pe_int (nomark _)) (pss_one (ps_nput (hu9 hr) (pv 3) (pv 2) (pv 5) rfl)) (pss_one (ps_ndel (hu9 hr) (pv 3) (pv 2))))))))
      (pss_one (ps_ret (pv 3)))), ?_⟩
    have lk := ints_len im
    have ll := ints_len il
    refine ⟨d, _, hd, True.intro, fun od => ?_⟩
    refine ⟨_, rfl, d, od, kvs, rfl, upd_same, fun D nD => ?_⟩
    have Dd : D ≠ d := fun z => by rw [z, upd_same] at nD; cases nD
    rw [upd_ne Dd] at nD
    refine blk_n (o := fun D => dN w D []) (n := kvs.length) (fun (i : Nat) (F : Hp) => Lk d od (dN w d kvs) H F ∧ ∃ os : List NE, F D = some (dN w D os) ∧ KeysN K F os ∧ IntsN os ((m.take i).map fun x : NI => (x.1, x.2)))
      ⟨Lk.start.set Dd nD, [], upd_same, (fun x hx => by cases hx), rfl⟩ (fun i F hi ⟨l, _⟩ => ⟨l.1, hi⟩) (fun F ⟨l, _⟩ => ⟨l.1, Nat.le_refl _⟩) (fun i F x F' hi ⟨l, os, h1, h2, h3⟩ hy => ?_) (fun F ⟨l, os, h1, h2, h3⟩ => ?_)
    · obtain ⟨rfl, y, hy, rfl⟩ := hy
      obtain ⟨c, hc, hv⟩ := ints_at im hy
      obtain ⟨k3, k4⟩ := ks y (List.mem_of_getElem? hy)
      have key : KeyV K F' y.1 (.ref y.2.1) := k3.up (l.tups hd) _ _
      have hlen : os.length < sizeLine := by
        have := ints_len h3
        rw [List.length_map, List.length_take] at this
        omega
      have hval : valN kvs y.1 = some (V.int c) := by
        rw [ints_val im, (valI_mem nd).mpr (List.mem_of_getElem? hc)]
        rfl
      refine ⟨rfl, _, rfl, _, rfl, _, rfl, d, y.2.1, kvs, y.1, V.int c, rfl, rfl, .inr ⟨od, l.1⟩, ks.up (l.tups hd), key, k4, hval, os, y.1, y.2.1, rfl, h1, h2, hlen, key, k4, l.set Dd nD, _, upd_same, ?_, ?_⟩
      · exact (h2.put key k4).up (Tups.put (not_tup_dN h1))
      · have := ints_put h3 y.1 y.2.1 c
        rw [show putI ((m.take i).map fun x => (x.1, x.2)) y.1 c = (m.take (i + 1)).map fun x => (x.1, x.2) from put_take nd (fun x => x.2) hc] at this
        exact this
    · refine ⟨l.1, ?_⟩
      have em : (m.take kvs.length).map (fun x : NI => (x.1, x.2)) = m := by rw [lk, List.take_length]; exact List.map_id m
      rw [em] at h3
      have sm := l.done hd
      have h1' : upd F d (dN w d kvs) D = some (dN w D os) := (upd_ne Dd).trans h1
      have h2' := h2.up (K := K) (back_tups (K := K) l.1)
      generalize upd F d (dN w d kvs) = G at sm h1' h2' ⊢
      have eD : e ≠ D := ne_of_none he nD
      refine ⟨e, _, sm _ _ he, True.intro, fun oe => ?_⟩
      have lE : Lk e oe (dN w e lvs) H (upd G e (.frz oe (dN w e lvs))) := ⟨upd_same, fun a o ne q => (upd_ne ne).trans (sm a o q)⟩
      have gD : upd G e (.frz oe (dN w e lvs)) D = some (dN w D os) := (upd_ne (Ne.symm eD)).trans h1'
      have gK : KeysN K (upd G e (.frz oe (dN w e lvs))) os := h2'.up (Tups.put (not_tup_dN (sm _ _ he)))
      refine ⟨_, rfl, e, oe, lvs, rfl, upd_same, for_n (n := lvs.length) (fun (i : Nat) (σ : L2.St) (F : Hp) => ∃ u2 u4 u5 : Option V, σ = [some (.ref d), some (.ref e), u2, some (.ref D), u4, u5] ∧ Lk e oe (dN w e lvs) H F ∧
          ∃ os : List NE, F D = some (dN w D os) ∧ KeysN K F os ∧ IntsN os (plusI m (n.take i)))
        ⟨_, _, _, rfl, lE, os, gD, gK, h3⟩ (fun i σ F hi ⟨_, _, _, _, l, _⟩ => ⟨l.1, hi⟩) (fun σ F ⟨_, _, _, _, l, _⟩ => ⟨l.1, Nat.le_refl _⟩) (fun i σ F x F' hi ⟨u2, u4, u5, hσ, l, os, h1, h2, h3⟩ hy => ?_) (fun σ F ⟨u2, u4, u5, hσ, l, os, h1, h2, h3⟩ => ?_)⟩
      · subst hσ
        obtain ⟨T, y, hy, rfl, nT, rfl⟩ := hy
        obtain ⟨c, hc, hv⟩ := ints_at il hy
        obtain ⟨k3, k4⟩ := ls y (List.mem_of_getElem? hy)
        have l2 := l.new (o := .tup [.ref y.2.1, y.2.2]) nT
        have h1' : upd F T (.tup [.ref y.2.1, y.2.2]) D = some (dN w D os) := (upd_ne (ne_of_none h1 nT)).trans h1
        have h2' : KeysN K (upd F T (.tup [.ref y.2.1, y.2.2])) os := h2.up (Tups.put (not_tup_none nT))
        have hT : upd F T (.tup [.ref y.2.1, y.2.2]) T = some (.tup [.ref y.2.1, y.2.2]) := upd_same
        generalize upd F T (.tup [.ref y.2.1, y.2.2]) = G at l2 h1' h2' hT ⊢
        have hlen : os.length < sizeLine := by
          have q1 := ints_len h3
          have q2 := len_plusI (n.take i) m
          rw [List.length_take] at q2
          omega
        have key : KeyV K G y.1 (.ref y.2.1) := k3.up (l2.tups he) _ _
        have hval : (valN os y.1).getD (.int 0) = .int ((valI (plusI m (n.take i)) y.1).getD 0) := by
          rw [ints_val h3]
          cases valI (plusI m (n.take i)) y.1 <;> rfl
        have next := plusI_take hc m
        refine ⟨T, _, rfl, SqT.of hT, rfl, _, _, rfl, _, _, rfl, rfl, ?_⟩
        refine ⟨_, rfl, D, os, rfl, .inl h1', h2', _, rfl, y.2.1, y.1, rfl, .inl h1', h2', key, k4, _, rfl, _, _, hval, hv, ?_⟩
        refine ⟨_, rfl, rfl, _, rfl, ?_⟩
        by_cases z : (valI (plusI m (n.take i)) y.1).getD 0 + c = 0
        · refine ifN (by simp [z]) ?_
          have some' : (valN os y.1).isSome = true := by
            rw [ints_val h3, Option.isSome_map]
            cases q : valI (plusI m (n.take i)) y.1 with
            | none =>
              rw [q] at z
              have := nz (y.1, c) (List.mem_of_getElem? hc)
              exact absurd (by simpa using z) this
            | some v => rfl
          refine ⟨_, rfl, _, rfl, D, y.2.1, os, y.1, rfl, rfl, h1', h2', key, k4, some', _, _, _, rfl, l2.set (Ne.symm eD) nD, _, upd_same, (h2'.drop).up (Tups.put (not_tup_dN h1')), ?_⟩
          rw [next]
          unfold plusOne
          rw [if_neg (fun q => q z)]
          exact ints_drop y.1 h3
        · refine ifY (by simp [z]) ?_
          refine ⟨_, rfl, _, rfl, _, rfl, D, y.2.1, os, y.1, rfl, rfl, h1', h2', hlen, key, k4, _, _, _, rfl, l2.set (Ne.symm eD) nD, _, upd_same, (h2'.put key k4).up (Tups.put (not_tup_dN h1')), ?_⟩
          rw [next]
          unfold plusOne
          rw [if_pos z]
          exact ints_put h3 y.1 y.2.1 _
      · subst hσ
        refine ⟨l.1, _, rfl, go D _ (l.done he) nD ⟨os, (upd_ne (Ne.symm eD)).trans h1, h2.up (back_tups l.1), ?_, nodup_plusI nd⟩⟩
        rw [ll, List.take_length] at h3
        exact h3
/-- minus(p, q) -/
def negI (m : List NI) : List NI := m.map fun x => (x.1, x.2 * -1)
def spMinus (K : PySem.W.Frag) (w : World) : Sp := fun vs H Q _ => ∃ (d e : Addr) (m n : List NI), vs = [.ref d, .ref e] ∧ DictI K w H d m ∧ DictI K w H e n ∧ m.length + n.length < sizeLine ∧ (∀ x ∈ n, x.2 ≠ 0) ∧
  ∀ (d' : Addr) (H' : Hp), Same H H' → H d' = none → DictI K w H' d' (plusI m (negI n)) → Q (.ref d') H'
theorem scMinus : FnScope ["p", "q"] ["p", "q"] (defScope sMinus) := ⟨rfl, rfl, rfl, by decide +kernel, rfl, by decide +kernel, by decide +kernel⟩
theorem ok_minus {f fP fS : Addr} {fd fdP fdS : FuncData} (F : Fun K "minus" "minus" sMinus f fd) (GP : FnOk P w K mg base CX0 1 fP fdP ["p", "q"] (spPlus K w)) (bP : Binds K fdP ["p", "q"] []) (gP : mg "plus" = some (.ref fP)) (kP : PySem.W.keepIn K (.ref fP) = true)
    (GS : FnOk P w K mg base CX0 1 fS fdS ["p", "k"] (spScaled K w)) (bS : Binds K fdS ["p", "k"] []) (gS : mg "scaled" = some (.ref fS)) (kS : PySem.W.keepIn K (.ref fS) = true) : FnOk P w K mg base CX0 2 f fd ["p", "q"] (spMinus K w) := by
  refine F.ok scMinus (fun vs H Q E h => ?_) (fun cdv A outer s H vs Q E hr h => ?_)
  · obtain ⟨d, e, m, n, rfl, _⟩ := h
    rfl
  · obtain ⟨d, e, m, n, rfl, hm, hn, hl, nz, go⟩ := h
    refine ⟨_, pss_one (ps_ret (pe_call GP hr rfl gP kP bP .nil pass0 (pa_cons (pv 0) (pa_cons (pe_call GS hr rfl gS kS bS .nil pass0 (pa_cons (pv 1) (pa_cons (pe_un un_neg pe_int) pa_nil))) pa_nil)))), ?_⟩
    refine ⟨_, rfl, _, rfl, _, rfl, e, -1, n, rfl, by decide, by decide, by decide, hn, by omega, fun d1 H1 s1 n1 h1 => ?_⟩
    refine ⟨d, d1, m, negI n, rfl, hm.up s1, h1, ?_, ?_, fun d2 H2 s2 n2 h2 => go d2 H2 (fun a o q => s2 a o (s1 a o q)) ?_ h2⟩
    · unfold negI
      rw [List.length_map]
      exact hl
    · intro x hx
      obtain ⟨y, hy, rfl⟩ := List.mem_map.mp hx
      have := nz y hy
      show y.2 * -1 ≠ 0
      omega
    · cases q : H d2 with
      | none => rfl
      | some o => rw [s1 _ _ q] at n2; cases n2
end
end K1P

set_option Elab.async false
set_option linter.all false
set_option maxRecDepth 100000
set_option maxHeartbeats 4000000
/-! figurehold.polys: _by_monomials. -/
namespace K1P
open PySem L2 K1D
abbrev sBy : Stmt := top 15
/-- a monomial: names and exponents -/
abbrev Mon := List (Str × Int)
def pairM (x : Str × Int) : NestedKey := .tup [.text x.1, .num x.2]
def monK (ms : Mon) : NestedKey := .tup (ms.map pairM)
def polyK (m : List NI) : NestedKey := .tup (m.map pairK)
def IsMon (k : NestedKey) : Prop := ∃ ms, k = monK ms
/-- at p a polynomial: pairs of a monomial and an int -/
def PolyV (K : PySem.W.Frag) (H : Hp) (p : Addr) (m : List NI) : Prop := KeyV K H (polyK m) (.ref p) ∧ (∀ x ∈ m, IsMon x.1) ∧ (keysI m).Nodup
theorem PolyV.up {K : PySem.W.Frag} {H H' : Hp} {p : Addr} {m : List NI} (h : PolyV K H p m) (t : Tups K H H') : PolyV K H' p m := ⟨h.1.up t _ _, h.2⟩
theorem same_tups {K : PySem.W.Frag} {H H' : Hp} (s : Same H H') : Tups K H H' := Tups.ext s
theorem depth_mon (ms : Mon) : (monK ms).depth ≤ 2 := by
  have h : ∀ l : Mon, NestedKey.depthAll (l.map pairM) ≤ 1 := by
    intro l
    induction l with
    | nil => exact Nat.zero_le _
    | cons x l ih =>
      show max (pairM x).depth (NestedKey.depthAll (l.map pairM)) ≤ 1
      exact Nat.max_le.mpr ⟨by simp [pairM, NestedKey.depth, NestedKey.depthAll], ih⟩
  show NestedKey.depthAll (ms.map pairM) + 1 ≤ 2
  have := h ms
  omega
theorem depth_isMon {k : NestedKey} (h : IsMon k) : k.depth ≤ 8 := by
  obtain ⟨ms, rfl⟩ := h
  exact Nat.le_trans (depth_mon ms) (by decide)
section
variable {K : PySem.W.Frag} {H : Hp}
theorem keyVs_len : ∀ {ks : List NestedKey} {vs : List V}, KeyVs K H ks vs → vs.length = ks.length
  | [], _, h => by cases h; rfl
  | k :: ks, _, h => by
    cases h with
    | cons _ h => simp [keyVs_len h]
theorem keyVs_at : ∀ {ks : List NestedKey} {vs : List V} {i : Nat} {v : V}, KeyVs K H ks vs → vs[i]? = some v → ∃ k, ks[i]? = some k ∧ KeyV K H k v
  | [], _, i, v, h, e => by cases h; simp at e
  | k :: ks, _, 0, v, h, e => by
    cases h with
    | cons h1 h2 =>
      simp only [List.getElem?_cons_zero, Option.some.injEq] at e
      subst e
      exact ⟨k, rfl, h1⟩
  | k :: ks, _, i + 1, v, h, e => by
    cases h with
    | cons h1 h2 =>
      simp only [List.getElem?_cons_succ] at e
      obtain ⟨k', e', h'⟩ := keyVs_at h2 e
      exact ⟨k', by simpa using e', h'⟩
theorem keyVs_snoc : ∀ {ks : List NestedKey} {vs : List V} {k : NestedKey} {v : V}, KeyVs K H ks vs → KeyV K H k v → KeyVs K H (ks ++ [k]) (vs ++ [v])
  | [], _, _, _, h, g => by cases h; exact .cons g .nil
  | _ :: _, _, _, _, h, g => by
    cases h with
    | cons h1 h2 => exact .cons h1 (keyVs_snoc h2 g)
theorem key_pairK {y : NI} {v : V} (h : KeyV K H (pairK y) v) : ∃ (t : Addr) (u : V), v = .ref t ∧ H t = some (.tup [u, .int y.2]) ∧ KeyV K H y.1 u := by
  cases h with
  | @tup a xs ks h1 h2 =>
    cases h2 with
    | cons h2 h3 =>
      cases h3 with
      | cons h3 h4 =>
        cases h4
        cases h3
        exact ⟨a, _, rfl, h1, h2⟩
theorem key_pairM {y : Str × Int} {v : V} (h : KeyV K H (pairM y) v) : ∃ t : Addr, v = .ref t ∧ H t = some (.tup [.str y.1, .int y.2]) := by
  cases h with
  | @tup a xs ks h1 h2 =>
    cases h2 with
    | cons h2 h3 =>
      cases h3 with
      | cons h3 h4 =>
        cases h4
        cases h3
        cases h2
        exact ⟨a, rfl, h1⟩
theorem key_tup {ks : List NestedKey} {v : V} (h : KeyV K H (.tup ks) v) : ∃ (t : Addr) (xs : List V), v = .ref t ∧ H t = some (.tup xs) ∧ KeyVs K H ks xs := by
  cases h with
  | @tup a xs ks h1 h2 => exact ⟨a, xs, rfl, h1, h2⟩
theorem mon_tup {k : NestedKey} {v : V} (hm : IsMon k) (h : KeyV K H k v) : ∃ t : Addr, v = .ref t := by
  obtain ⟨ms, rfl⟩ := hm
  obtain ⟨t, _, e, _⟩ := key_tup h
  exact ⟨t, e⟩
end
/-- the block's own scope -/
def dcScope : List Stmt → Scope
  | [.Return (some (.DictComp _ _ _ s _)) _] => s
  | _ => defScope sBy
/-- _by_monomials(p) -/
def spBy (K : PySem.W.Frag) (w : World) : Sp := fun vs H Q _ => ∃ (p : Addr) (m : List NI), vs = [.ref p] ∧ PolyV K H p m ∧ m.length < sizeLine ∧ (∀ x ∈ m, ∀ ms, x.1 = monK ms → ms.length < sizeLine) ∧
  ∀ (d : Addr) (H' : Hp), Same H H' → H d = none → DictI K w H' d m → Q (.ref d) H'
section
variable {P : Program} {w : World} {K : PySem.W.Frag} {mg : Str → Option Value} {base : Heap}
theorem scBy : FnScope ["p", "monomial", "many", "name", "exponent"] ["p"] (defScope sBy) := ⟨rfl, rfl, rfl, by decide +kernel, rfl, by decide +kernel, by decide +kernel⟩
theorem ok_by {f : Addr} {fd : FuncData} (F : Fun K "_by_monomials" "_by_monomials" sBy f fd) (tup : mg "tuple" = none) : FnOk P w K mg base CX0 1 f fd ["p"] (spBy K w) := by
  refine F.ok scBy (fun vs H Q E h => ?_) (fun cdv A outer s H vs Q E hr h => ?_)
  · obtain ⟨p, m, rfl, _⟩ := h
    rfl
  · obtain ⟨p, m, rfl, ⟨hp, mon, nd⟩, hl, hlm, go⟩ := h
    refine ⟨_, pss_one (ps_ret (pe_ndc (own := [("monomial", 1), ("many", 2)]) (g := gTup K 2 (gCons (gName 1) (gCons (gName 2) gNil)))
        (tk := tThen (tLc (iTup K (tVar 1)) (gTup K 2 (gCons (gName 3) (gCons (gName 4) gNil))) tYes (tTup (tCons (tVar 3) (tCons (tVar 4) tNil))) [3, 4]) (kTup K))
        (hu8 hr) rfl scBy.nd (pi_tup (pv 0)) (blkOk_by (own := [("monomial", 1), ("many", 2)]) (N := ["p", "monomial", "many", "name", "exponent"]) (sc := defScope sBy) (by decide +kernel))
        (fun _ _ _ _ _ => pg_tup rfl (pgs_cons (pg_name (i := 1) scBy.nd rfl (Or.inl rfl)) (pgs_cons (pg_name (i := 2) scBy.nd rfl (Or.inl rfl)) pgs_nil))) (fun _ _ _ _ _ => pts_nil)
        (fun _ _ _ _ _ => pe_tupleOf (by rfl) tup (pe_lc (own := [("name", 3), ("exponent", 4)]) (g := gTup K 2 (gCons (gName 3) (gCons (gName 4) gNil))) rfl scBy.nd (pi_tup (pv 1)) (blkOk_by (own := [("name", 3), ("exponent", 4)]) (N := ["p", "monomial", "many", "name", "exponent"]) (sc := dcScope (defBody sBy)) (by decide +kernel))
          (fun _ _ _ _ _ => pg_tup rfl (pgs_cons (pg_name (i := 3) scBy.nd rfl (Or.inl rfl)) (pgs_cons (pg_name (i := 4) scBy.nd rfl (Or.inl rfl)) pgs_nil))) (fun _ _ _ _ _ => pts_nil)
          (fun _ _ _ _ _ => pe_tup (pa_cons (pv 3) (pa_cons (pv 4) pa_nil)))))
        (fun _ _ _ _ _ => pv 2))), ?_⟩
    obtain ⟨p', xs, ep, hxs, kxs⟩ := key_tup hp
    obtain rfl : p = p' := V.ref.inj ep
    have lx : xs.length = m.length := by rw [keyVs_len kxs, List.length_map]
    refine ⟨_, rfl, p, rfl, ⟨xs, SqT.of hxs⟩, fun D nD => ?_⟩
    refine blk_n (o := fun D => dN w D []) (n := m.length) (fun (i : Nat) (F : Hp) => Same H F ∧ ∃ os : List NE, F D = some (dN w D os) ∧ KeysN K F os ∧ IntsN os ((m.take i).map fun x : NI => (x.1, x.2)))
      ⟨fun a o q => (upd_ne (ne_of_none q nD)).trans q, [], upd_same, (fun x hx => by cases hx), rfl⟩ (fun i F hi ⟨sm, _⟩ => ⟨xs, xs[i]'(by omega), SqT.of (sm _ _ hxs), by simp⟩) (fun F ⟨sm, _⟩ => ⟨xs, SqT.of (sm _ _ hxs), by omega⟩) (fun i F x F' hi ⟨sm, os, h1, h2, h3⟩ hy => ?_) (fun F ⟨sm, os, h1, h2, h3⟩ => ?_)
    · obtain ⟨rfl, hx⟩ := hy
      have hx := hx xs (SqT.of (sm _ _ hxs))
      obtain ⟨k, hk, kv⟩ := keyVs_at kxs hx
      rw [List.getElem?_map] at hk
      obtain ⟨y, hy, rfl⟩ := Option.map_eq_some_iff.mp hk
      have ymem := List.mem_of_getElem? hy
      obtain ⟨t, u, rfl, ht, ku⟩ := key_pairK kv
      obtain ⟨ms, ems⟩ := mon y ymem
      have lms := hlm y ymem ms ems
      rw [ems] at ku
      obtain ⟨mo, ws, rfl, hws, kws⟩ := key_tup ku
      have lw : ws.length = ms.length := by rw [keyVs_len kws, List.length_map]
      refine ⟨t, _, rfl, SqT.of (sm _ _ ht), rfl, _, _, rfl, _, _, rfl, rfl, rfl, ?_⟩
      refine ⟨_, rfl, mo, rfl, ⟨ws, SqT.of (sm _ _ hws)⟩, fun L nL => ?_⟩
      refine lc_tup (xs := ws) (fun (j : Nat) (G : Hp) => Same F' G ∧ ∃ zs : List V, G L = some (.lst zs) ∧ KeyVs K G ((ms.take j).map pairM) zs) ⟨fun a o q => (upd_ne (ne_of_none q nL)).trans q, [], upd_same, .nil⟩
        (fun j G _ ⟨sg, _⟩ => SqT.of (sg _ _ (sm _ _ hws))) (fun j v G hv ⟨sg, zs, g1, g2⟩ => ?_) (fun G ⟨sg, zs, g1, g2⟩ => ?_)
      · obtain ⟨k, hk, kv⟩ := keyVs_at kws hv
        rw [List.getElem?_map] at hk
        obtain ⟨z, hz, rfl⟩ := Option.map_eq_some_iff.mp hk
        obtain ⟨tz, rfl, htz⟩ := key_pairM kv
        refine ⟨tz, _, rfl, SqT.of (sg _ _ (sm _ _ htz)), rfl, _, _, rfl, _, _, rfl, rfl, rfl, ?_⟩
        refine ⟨_, rfl, _, rfl, by show 2 ≤ sizeLine; decide, fun q nq => ?_⟩
        have gL : upd G q (.tup [.str z.1, .int z.2]) L = some (.lst zs) := (upd_ne (ne_of_none g1 nq)).trans g1
        have s2 : Same G (upd G q (.tup [.str z.1, .int z.2])) := fun a o e => (upd_ne (ne_of_none e nq)).trans e
        have kq : KeyV K (upd G q (.tup [.str z.1, .int z.2])) (pairM z) (.ref q) := .tup upd_same (.cons (.str z.1) (.cons (.int z.2) .nil))
        have zl : zs.length < sizeLine := by
          have q1 := keyVs_len g2
          rw [List.length_map, List.length_take] at q1
          omega
        have g2' := KeyVs.up (same_tups s2) _ _ g2
        generalize upd G q (.tup [.str z.1, .int z.2]) = G2 at gL s2 kq g2' ⊢
        have tl : Tups K G2 (upd G2 L (.lst (zs ++ [.ref q]))) := Tups.put fun xs e => by
          rcases e with e | ⟨o, e⟩
          · rw [gL] at e; cases e
          · rw [gL] at e; cases e
        refine ⟨zs, gL, zl, fun a o e => ?_, zs ++ [.ref q], upd_same, ?_⟩
        · have ne : a ≠ L := fun z => by subst z; rw [nL] at e; cases e
          exact (upd_ne ne).trans (s2 a o (sg a o e))
        · have lt : j < ms.length := (List.getElem?_eq_some_iff.mp hz).1
          rw [List.take_succ_eq_append_getElem lt, List.map_append, (List.getElem?_eq_some_iff.mp hz).2]
          exact KeyVs.up tl _ _ (keyVs_snoc g2' kq)
      · rw [lw, List.take_length] at g2
        refine .inl ⟨L, zs, rfl, SqL.of g1, fun q nq => ?_⟩
        have kq : KeyV K (upd G q (.tup zs)) y.1 (.ref q) := by
          rw [ems]
          exact .tup upd_same (KeyVs.up (Tups.put (not_tup_none nq)) _ _ g2)
        have s2 : Same F' (upd G q (.tup zs)) := fun a o e => (upd_ne (ne_of_none (sg a o e) nq)).trans (sg a o e)
        generalize upd G q (.tup zs) = G2 at kq s2 ⊢
        have hlen : os.length < sizeLine := by
          have q1 := ints_len h3
          rw [List.length_map, List.length_take] at q1
          omega
        refine ⟨_, rfl, os, y.1, q, rfl, s2 _ _ h1, h2.up (same_tups s2), hlen, kq, depth_isMon (mon y ymem), fun a o e => ?_, _, upd_same, ?_, ?_⟩
        · have ne : a ≠ D := fun z => by subst z; rw [nD] at e; cases e
          exact (upd_ne ne).trans (s2 a o (sm a o e))
        · exact ((h2.up (same_tups s2)).put kq (depth_isMon (mon y ymem))).up (Tups.put (not_tup_dN (s2 _ _ h1)))
        · have := ints_put h3 y.1 q y.2
          rw [show putI ((m.take i).map fun x => (x.1, x.2)) y.1 y.2 = (m.take (i + 1)).map fun x => (x.1, x.2) from put_take nd (fun x => x.2) hy] at this
          exact this
    · have em : (m.take m.length).map (fun x : NI => (x.1, x.2)) = m := by rw [List.take_length]; exact List.map_id m
      rw [em] at h3
      exact go D F sm nD ⟨os, h1, h2, h3, nd⟩
end
end K1P

set_option Elab.async false
set_option linter.all false
set_option maxRecDepth 100000
set_option maxHeartbeats 4000000
/-! figurehold.polys: the limits. -/
namespace K1P
open PySem L2 K1D
abbrev sConst : Stmt := top 11
abbrev sAdded : Stmt := top 12
abbrev sLess : Stmt := top 13
abbrev sCheck : Stmt := top 14
abbrev sOf : Stmt := top 16
def rAbs : List V → Hp → VK → Prop := fun xs H Q => ∃ i : Int, xs = [.int i] ∧ Q (.int (if i < 0 then -i else i)) H
def tooGreat : Int := 10 ^ 200
def Fits (m : List NI) : Prop := m.length ≤ 2000 ∧ ∀ x ∈ m, (x.2.natAbs : Int) < tooGreat
structure LimTxt (K : PySem.W.Frag) (mg : Str → Option Value) : Prop where
  len : mg "len" = none
  any : mg "any" = none
  abs : mg "abs" = none
  tuple : mg "tuple" = none
  sorted : mg "sorted" = none
  most : ∃ t, mg "MOST_TERMS" = some (.int 2000 t)
  great : ∃ t, mg "TOO_GREAT" = some (.int tooGreat t)
def spCheck (K : PySem.W.Frag) (w : World) : Sp := fun vs H Q _ => ∃ (d : Addr) (m : List NI), vs = [.ref d] ∧ DictI K w H d m ∧ Fits m ∧ ∀ (H' : Hp), Same H H' → Q .non H'
section
variable {P : Program} {w : World} {K : PySem.W.Frag} {mg : Str → Option Value} {base : Heap}
theorem scCheck : FnScope ["table", "many"] ["table"] (defScope sCheck) := ⟨rfl, rfl, rfl, by decide +kernel, rfl, by decide +kernel, by decide +kernel⟩
theorem ok_check {f : Addr} {fd : FuncData} (F : Fun K "_check_limits" "_check_limits" sCheck f fd) (T : LimTxt K mg) : FnOk P w K mg base CX0 1 f fd ["table"] (spCheck K w) := by
  refine F.ok scCheck (fun vs H Q E h => ?_) (fun cdv A outer s H vs Q E hr h => ?_)
  · obtain ⟨d, m, rfl, _⟩ := h
    rfl
  · obtain ⟨d, m, rfl, ⟨kvs, hd, ks, im, nd⟩, ⟨f1, f2⟩, go⟩ := h
    obtain ⟨t1, g1⟩ := T.most
    obtain ⟨t2, g2⟩ := T.great
    refine ⟨_, pss_cons (ps_if (pt_cmpR op_gt (pe_callB call_len_dn (by rfl) T.len PySem.boot_len (pa_cons (pv 0) pa_nil)) (pe_glob (v := .int 2000) (by rfl) g1 ⟨t1, rfl⟩) (nomark _)) pss_never pss_nil)
      (pss_one (ps_lock (ps_if (pt_val (pe_callB (cr_any rfl) (by rfl) T.any (by decide +kernel) (pa_cons (pe_lc (own := [("many", 1)]) (g := gName 1) rfl scCheck.nd (pi_nvalues (pv 0))
        (blkOk_by (own := [("many", 1)]) (N := ["table", "many"]) (sc := defScope sCheck) (by decide +kernel)) (fun _ _ _ _ _ => pg_name (i := 1) scCheck.nd rfl (Or.inl rfl)) (fun _ _ _ _ _ => pts_nil)
        (te := tOp (rI0 fun i j => .bl (decide (j ≤ i))) (tCB (rAbs) (tCons (tVar 1) tNil)) (tC (.int tooGreat)))
        (fun _ _ _ _ _ => pe_cmpR op_ge (pe_callB (show CallR _ (.builtin "abs") rAbs from call_abs) (by rfl) T.abs (by decide +kernel) (pa_cons (pv 1) pa_nil)) (pe_glob (v := .int tooGreat) (by rfl) g2 ⟨t2, rfl⟩) (nomark _))) pa_nil))) pss_never pss_nil))), ?_⟩
    have lk := ints_len im
    refine ⟨_, rfl, d, kvs, rfl, .inl hd, ks, _, _, rfl, rfl, _, rfl, ifN (decide_eq_false (by omega)) ?_⟩
    refine ⟨d, _, hd, True.intro, fun od => ?_⟩
    refine ⟨_, rfl, d, od, kvs, rfl, upd_same, fun L nL => ?_⟩
    have Ld : L ≠ d := fun z => by rw [z, upd_same] at nL; cases nL
    rw [upd_ne Ld] at nL
    refine blk_n (o := fun _ => .lst []) (n := kvs.length) (fun (i : Nat) (F : Hp) => Lk d od (dN w d kvs) H F ∧ F L = some (.lst (List.replicate i (V.bl false))))
      ⟨Lk.start.set Ld nL, upd_same⟩ (fun i F hi ⟨l, _⟩ => ⟨l.1, hi⟩) (fun F ⟨l, _⟩ => ⟨l.1, Nat.le_refl _⟩) (fun i F x F' hi ⟨l, h1⟩ hy => ?_) (fun F ⟨l, h1⟩ => ?_)
    · obtain ⟨rfl, e, he, rfl⟩ := hy
      obtain ⟨c, hc, hv⟩ := ints_at im he
      have lt := f2 _ (List.mem_of_getElem? hc)
      have no : decide (tooGreat ≤ (if c < 0 then -c else c)) = false := by
        refine decide_eq_false ?_
        have lt' : ((c.natAbs : Nat) : Int) < tooGreat := lt
        split <;> omega
      have ll : (List.replicate i (V.bl false)).length < sizeLine := by
        rw [List.length_replicate, sizeLine_eq]
        omega
      refine ⟨rfl, _, rfl, c, by rw [hv], _, _, rfl, rfl, _, h1, ll, l.set Ld nL, ?_⟩
      rw [upd_same, List.replicate_succ']
      show some (HO.lst (_ ++ [V.bl (decide (tooGreat ≤ (if c < 0 then -c else c)))])) = _
      rw [no]
    · refine ⟨L, List.replicate kvs.length false, rfl, SqL.of (by rw [List.map_replicate]; exact h1), ?_⟩
      have none' : (List.replicate kvs.length false).any id = false := by
        rw [List.any_eq_false]
        intro b hb
        rw [List.eq_of_mem_replicate hb]
        simp
      rw [none']
      exact ⟨_, rfl, ifN rfl ⟨l.1, go _ (l.done hd)⟩⟩
/-- the pairs of a dict, rising -/
def riseI (m : List NI) : List NI := m.mergeSort (PySem.W.dataLe false fun x => (pairK x).data)
theorem mon_alike : ∀ a b : Mon, PySem.W.alike (monK a).data (monK b).data = true := by
  have h : ∀ a b : Mon, PySem.W.alikeAll (NestedKey.datas (a.map pairM)) (NestedKey.datas (b.map pairM)) = true := by
    intro a
    induction a with
    | nil =>
      intro b
      show PySem.W.alikeAll [] _ = true
      simp only [PySem.W.alikeAll]
    | cons x a ih =>
      intro b
      cases b with
      | nil =>
        show PySem.W.alikeAll (_ :: _) [] = true
        simp only [PySem.W.alikeAll]
      | cons y b =>
        show PySem.W.alikeAll ((pairM x).data :: NestedKey.datas (a.map pairM)) ((pairM y).data :: NestedKey.datas (b.map pairM)) = true
        rw [PySem.W.alikeAll, ih b, Bool.and_true]
        show PySem.W.alike (.tuple [.str x.1, .int x.2]) (.tuple [.str y.1, .int y.2]) = true
        simp only [PySem.W.alike, PySem.W.alikeAll, Bool.and_self]
  intro a b
  show PySem.W.alike (.tuple (NestedKey.datas (a.map pairM))) (.tuple (NestedKey.datas (b.map pairM))) = true
  rw [PySem.W.alike]
  exact h a b
def MonsI (m : List NI) : Prop := ∀ x ∈ m, IsMon x.1
theorem MonsI.alike {m : List NI} (h : MonsI m) : ∀ x ∈ m, ∀ y ∈ m, PySem.W.alike x.1.data y.1.data = true := fun x hx y hy => by
  obtain ⟨a, ea⟩ := h x hx
  obtain ⟨b, eb⟩ := h y hy
  rw [ea, eb]
  exact mon_alike a b
theorem rise_perm (m : List NI) : (riseI m).Perm m := List.mergeSort_perm _ _
/-- _of_monomials(table) -/
def spOf (K : PySem.W.Frag) (w : World) : Sp := fun vs H Q _ => ∃ (d : Addr) (m : List NI), vs = [.ref d] ∧ DictI K w H d m ∧ MonsI m ∧ Fits m ∧ ∀ (p : Addr) (H' : Hp), Same H H' → PolyV K H' p (riseI m) → Q (.ref p) H'
theorem scOf : FnScope ["table"] ["table"] (defScope sOf) := ⟨rfl, rfl, rfl, by decide +kernel, rfl, by decide +kernel, by decide +kernel⟩
theorem ok_of {f fC : Addr} {fd fdC : FuncData} (F : Fun K "_of_monomials" "_of_monomials" sOf f fd) (T : LimTxt K mg) (GC : FnOk P w K mg base CX0 1 fC fdC ["table"] (spCheck K w)) (bC : Binds K fdC ["table"] []) (gC : mg "_check_limits" = some (.ref fC)) (kC : PySem.W.keepIn K (.ref fC) = true) :
    FnOk P w K mg base CX0 2 f fd ["table"] (spOf K w) := by
  refine F.ok scOf (fun vs H Q E h => ?_) (fun cdv A outer s H vs Q E hr h => ?_)
  · obtain ⟨d, m, rfl, _⟩ := h
    rfl
  · obtain ⟨d, m, rfl, hd, mo, fi, go⟩ := h
    refine ⟨_, pss_cons (ps_expr (pe_call GC hr rfl gC kC bC .nil pass0 (pa_cons (pv 0) pa_nil)))
      (pss_one (ps_ret (pe_tupleOf (by rfl) T.tuple (pe_callB (cr_sortN rfl hr.units) (by rfl) T.sorted (by decide +kernel) (pa_cons (pe_nitemsV (pv 0)) pa_nil))))), ?_⟩
    refine ⟨_, rfl, d, m, rfl, hd, fi, fun H1 s1 => ?_⟩
    obtain ⟨kvs, h1, h2, h3, h4⟩ := hd.up s1
    refine ⟨_, rfl, d, kvs, rfl, .inl h1, fun v nv => ?_⟩
    have s2 : Same H1 (upd H1 v (DX.itemsO v d)) := fun a o e => (upd_ne (ne_of_none e nv)).trans e
    refine ⟨v, d, kvs, m, rfl, upd_same, .inl (s2 _ _ h1), h2.up (same_tups s2), h3, mo.alike, fun H3 l xs s3 hl hx => ?_⟩
    refine .inl ⟨l, xs, rfl, SqL.of hl, fun q nq => ?_⟩
    have s4 : Same H3 (upd H3 q (.tup xs)) := fun a o e => (upd_ne (ne_of_none e nq)).trans e
    refine go q _ (fun a o e => s4 a o (s3 a o (s2 a o (s1 a o e)))) ⟨.tup upd_same (KeyVs.up (same_tups s4) _ _ hx), fun x hx => mo x ((rise_perm m).mem_iff.mp hx), ?_⟩
    exact ((rise_perm m).map fun x : NI => x.1).nodup_iff.mpr h4
end
end K1P

set_option Elab.async false
set_option linter.all false
set_option maxRecDepth 100000
set_option maxHeartbeats 4000000
/-! figurehold.polys: added, less, constant; calls by names alone. -/
namespace K1P
open PySem L2 K1D
/-! ### f(k = v, ..), no positional value -/
def tCallN0 (m : Nat) (sp : Sp) (gV : List V → List V → List V) (E : XK) (tk : TA) : TE := fun σ H Q => tk σ H fun zs G => zs.length = m ∧ sp (gV [] zs) G Q E
theorem pe_callN0 {X : Cx} {CX : CXT} {k : Nat} {f : Addr} {fd : FuncData} {ps ks : List Str} {sp : Sp} {E : XK} {x : Str} {p pos : Pos} {kws : List Keyword} {tk : TA} {g : List Value → List Value → List Value} {gV : List V → List V → List V}
    (F : FnOk X.prog X.w X.K X.mg X.base CX k f fd ps sp) (hr : Room k X.A) (hg : Gl X x) (hm : X.mg x = some (.ref f)) (kp : PySem.W.keepIn X.K (.ref f) = true) (hb : KBn X.K fd ps 0 ks g gV) (hx : Passes CX X E) (hkw : PK X kws tk)
    (hall : (backToKw pos (keywordEach kws X.env)).all (·.1.isSome) = true := by rfl) (hks : (backToKw pos (keywordEach kws X.env)).filterMap (·.1) = ks := by rfl) (hdb : (x == ("__debug__" : Str)) = false := by decide)
    (hpl : ((backTo pos (starEach [] X.env)).any (·.1) || (backToKw pos (keywordEach kws X.env)).any (·.1.isNone)) = false := by rfl) : PE X (.Call (.Name x p) [] kws pos) (tCallN0 ks.length sp gV E tk) := ⟨fun pn s τ H Q I h => by
  refine wpAny_Call_Name_kw (ld_glob I hg hm ?_ hdb)
  refine PySem.W.callWith_KW0 (h₀ := X.base) I.ok.mod.kin kp hall (thn (hkw.run pos pn s τ H _ I h) fun ws s2 ⟨zs, G, I2, rz, l2, q2⟩ => ⟨I2.kIn, ?_⟩) hpl
  rw [hks]
  exact run_fnN F hr hb hx I2 .nil rz rfl l2 q2⟩
theorem vals_reverse : ∀ {zs : List V} {ws : List Value}, Vals zs ws → Vals zs.reverse ws.reverse
  | _, _, .nil => .nil
  | _, _, .cons h t => by
    rw [List.reverse_cons, List.reverse_cons]
    exact Vals.append (vals_reverse t) (.cons h .nil)
theorem kb_rev {K : PySem.W.Frag} {x qual : Str} {st : Stmt} {f : Addr} {fd : FuncData} {p q : Str} (F : Fun K x qual st f fd)
    (h : ∀ (kV doc pm : Value) (an : Option Addr) (cdv ct a b : Value), bindArgs (PySem.W.fnOf x qual (defArgs st) (defBody st) (defScope st) .none kV doc pm an cdv ct) ⟨[], [(q, a), (p, b)]⟩ = pure [(p, b), (q, a)]) : KBn K fd [p, q] 0 [q, p] (fun _ ws => ws.reverse) (fun _ zs => zs.reverse) := by
  obtain ⟨oc, od, kV, doc, pm, an, cdv, ct, osl, rfl, lk, hcd⟩ := F.ex
  refine ⟨fun s us ws X l1 l2 => ?_, fun _ r => vals_reverse r⟩
  match us, ws, l1, l2 with
  | [], [a, b], _, _ => exact .of_eq (h kV doc pm an cdv ct a b)
theorem kb_one {K : PySem.W.Frag} {x qual : Str} {st : Stmt} {f : Addr} {fd : FuncData} {p : Str} (F : Fun K x qual st f fd)
    (h : ∀ (kV doc pm : Value) (an : Option Addr) (cdv ct a : Value), bindArgs (PySem.W.fnOf x qual (defArgs st) (defBody st) (defScope st) .none kV doc pm an cdv ct) ⟨[], [(p, a)]⟩ = pure [(p, a)]) : KBn K fd [p] 0 [p] (fun _ ws => ws) (fun _ zs => zs) := by
  obtain ⟨oc, od, kV, doc, pm, an, cdv, ct, osl, rfl, lk, hcd⟩ := F.ex
  refine ⟨fun s us ws X l1 l2 => ?_, fun _ r => r⟩
  match us, ws, l1, l2 with
  | [], [a], _, _ => exact .of_eq (h kV doc pm an cdv ct a)
/-! ### sums -/
def MonSm (m : List NI) : Prop := ∀ x ∈ m, ∀ ms, x.1 = monK ms → ms.length < sizeLine
theorem keys_put {m : List NI} {k j : NestedKey} {c : Int} (h : j ∈ keysI (putI m k c)) : j = k ∨ j ∈ keysI m := by
  rw [keysI_put] at h
  split at h
  · exact .inr h
  · rcases List.mem_append.mp h with h | h
    · exact .inr h
    · exact .inl (List.mem_singleton.mp h)
theorem keys_drop {m : List NI} {k j : NestedKey} (h : j ∈ keysI (dropI m k)) : j ∈ keysI m := by
  obtain ⟨x, hx, rfl⟩ := List.mem_map.mp h
  exact List.mem_map.mpr ⟨x, (List.mem_filter.mp hx).1, rfl⟩
theorem keys_plus {n : List NI} : ∀ {m : List NI} {j : NestedKey}, j ∈ keysI (plusI m n) → j ∈ keysI m ∨ j ∈ keysI n := by
  induction n with
  | nil => exact fun h => .inl h
  | cons x n ih =>
    intro m j h
    rcases ih (m := plusOne m x) h with h | h
    · unfold plusOne at h
      split at h
      · rcases keys_put h with h | h
        · exact .inr (by rw [h]; exact List.mem_cons_self ..)
        · exact .inl h
      · exact .inl (keys_drop h)
    · exact .inr (List.mem_cons_of_mem _ h)
theorem monsI_keys {m : List NI} : MonsI m ↔ ∀ k ∈ keysI m, IsMon k := by
  constructor
  · intro h k hk
    obtain ⟨x, hx, rfl⟩ := List.mem_map.mp hk
    exact h x hx
  · intro h x hx
    exact h x.1 (List.mem_map.mpr ⟨x, hx, rfl⟩)
theorem monsI_plus {m n : List NI} (h : MonsI m) (g : MonsI n) : MonsI (plusI m n) := monsI_keys.mpr fun k hk => (keys_plus hk).elim (monsI_keys.mp h k) (monsI_keys.mp g k)
theorem keysI_neg (n : List NI) : keysI (negI n) = keysI n := keysI_map n (· * -1)
theorem monsI_neg {n : List NI} (h : MonsI n) : MonsI (negI n) := monsI_keys.mpr (by rw [keysI_neg]; exact monsI_keys.mp h)
structure AddTxt (P : Program) (w : World) (K : PySem.W.Frag) (mg : Str → Option Value) (base : Heap) (fB fP fM fO : Addr) (dB dP dM dO : FuncData) : Prop where
  okB : FnOk P w K mg base CX0 1 fB dB ["p"] (spBy K w)
  bB : Binds K dB ["p"] []
  gB : mg "_by_monomials" = some (.ref fB)
  kB : PySem.W.keepIn K (.ref fB) = true
  okP : FnOk P w K mg base CX0 1 fP dP ["p", "q"] (spPlus K w)
  bP : Binds K dP ["p", "q"] []
  gP : mg "plus" = some (.ref fP)
  kP : PySem.W.keepIn K (.ref fP) = true
  okM : FnOk P w K mg base CX0 2 fM dM ["p", "q"] (spMinus K w)
  bM : Binds K dM ["p", "q"] []
  gM : mg "minus" = some (.ref fM)
  kM : PySem.W.keepIn K (.ref fM) = true
  okO : FnOk P w K mg base CX0 2 fO dO ["table"] (spOf K w)
  bO : Binds K dO ["table"] []
  gO : mg "_of_monomials" = some (.ref fO)
  kO : PySem.W.keepIn K (.ref fO) = true
/-- two polynomials, op what the table's sum is -/
def spSum (K : PySem.W.Frag) (op : List NI → List NI → List NI) : Sp := fun vs H Q _ => ∃ (p q : Addr) (m n : List NI), vs = [.ref p, .ref q] ∧ PolyV K H p m ∧ PolyV K H q n ∧ MonSm m ∧ MonSm n ∧ m.length + n.length < sizeLine ∧ (∀ x ∈ n, x.2 ≠ 0) ∧ Fits (op m n) ∧
  ∀ (r : Addr) (H' : Hp), Same H H' → PolyV K H' r (riseI (op m n)) → Q (.ref r) H'
def lessI (m n : List NI) : List NI := plusI m (negI n)
section
variable {P : Program} {w : World} {K : PySem.W.Frag} {mg : Str → Option Value} {base : Heap} {fB fP fM fO : Addr} {dB dP dM dO : FuncData}
theorem scAdded : FnScope ["p", "q"] ["p", "q"] (defScope sAdded) := ⟨rfl, rfl, rfl, by decide +kernel, rfl, by decide +kernel, by decide +kernel⟩
theorem scLess : FnScope ["p", "q"] ["p", "q"] (defScope sLess) := ⟨rfl, rfl, rfl, by decide +kernel, rfl, by decide +kernel, by decide +kernel⟩
theorem same_none {H H' : Hp} {a : Addr} (s : Same H H') (h : H' a = none) : H a = none := by
  cases q : H a with
  | none => rfl
  | some o => rw [s _ _ q] at h; cases h
theorem ok_added {f : Addr} {fd : FuncData} (F : Fun K "added" "added" sAdded f fd) (T : AddTxt P w K mg base fB fP fM fO dB dP dM dO) : FnOk P w K mg base CX0 3 f fd ["p", "q"] (spSum K plusI) := by
  refine F.ok scAdded (fun vs H Q E h => ?_) (fun cdv A outer s H vs Q E hr h => ?_)
  · obtain ⟨p, q, m, n, rfl, _⟩ := h
    rfl
  · obtain ⟨p, q, m, n, rfl, hp, hq, sm, sn, hl, nz, fi, go⟩ := h
    have h1 : Room 1 _ := hr.mono (by decide)
    refine ⟨_, pss_one (ps_ret (pe_call T.okO hr rfl T.gO T.kO T.bO .nil pass0 (pa_cons (pe_call T.okP h1 rfl T.gP T.kP T.bP .nil pass0 (pa_cons (pe_call T.okB h1 rfl T.gB T.kB T.bB .nil pass0 (pa_cons (pv 0) pa_nil)) (pa_cons (pe_call T.okB h1 rfl T.gB T.kB T.bB .nil pass0 (pa_cons (pv 1) pa_nil)) pa_nil))) pa_nil))), ?_⟩
    refine ⟨_, rfl, p, m, rfl, hp, by omega, sm, fun d1 H1 s1 n1 e1 => ?_⟩
    refine ⟨_, rfl, q, n, rfl, hq.up (same_tups s1), by omega, sn, fun d2 H2 s2 n2 e2 => ?_⟩
    refine ⟨d1, d2, m, n, rfl, e1.up s2, e2, hl, nz, fun d3 H3 s3 n3 e3 => ?_⟩
    exact ⟨d3, plusI m n, rfl, e3, monsI_plus hp.2.1 hq.2.1, fi, fun r H4 s4 h4 => go r H4 (fun a o e => s4 a o (s3 a o (s2 a o (s1 a o e)))) h4⟩
theorem ok_less {f : Addr} {fd : FuncData} (F : Fun K "less" "less" sLess f fd) (T : AddTxt P w K mg base fB fP fM fO dB dP dM dO) : FnOk P w K mg base CX0 3 f fd ["p", "q"] (spSum K lessI) := by
  refine F.ok scLess (fun vs H Q E h => ?_) (fun cdv A outer s H vs Q E hr h => ?_)
  · obtain ⟨p, q, m, n, rfl, _⟩ := h
    rfl
  · obtain ⟨p, q, m, n, rfl, hp, hq, sm, sn, hl, nz, fi, go⟩ := h
    have h1 : Room 1 _ := hr.mono (by decide)
    refine ⟨_, pss_one (ps_ret (pe_call T.okO hr rfl T.gO T.kO T.bO .nil pass0 (pa_cons (pe_call T.okM hr rfl T.gM T.kM T.bM .nil pass0 (pa_cons (pe_call T.okB h1 rfl T.gB T.kB T.bB .nil pass0 (pa_cons (pv 0) pa_nil)) (pa_cons (pe_call T.okB h1 rfl T.gB T.kB T.bB .nil pass0 (pa_cons (pv 1) pa_nil)) pa_nil))) pa_nil))), ?_⟩
    refine ⟨_, rfl, p, m, rfl, hp, by omega, sm, fun d1 H1 s1 n1 e1 => ?_⟩
    refine ⟨_, rfl, q, n, rfl, hq.up (same_tups s1), by omega, sn, fun d2 H2 s2 n2 e2 => ?_⟩
    refine ⟨d1, d2, m, n, rfl, e1.up s2, e2, hl, nz, fun d3 H3 s3 n3 e3 => ?_⟩
    exact ⟨d3, lessI m n, rfl, e3, monsI_plus hp.2.1 (monsI_neg hq.2.1), fi, fun r H4 s4 h4 => go r H4 (fun a o e => s4 a o (s3 a o (s2 a o (s1 a o e)))) h4⟩
/-! ### constant -/
def spCheckK : Sp := fun vs H Q _ => ∃ (d : Addr) (k : Int), vs = [.ref d] ∧ H d = some (.dK (numK k)) ∧ (k.natAbs : Int) < tooGreat ∧ ∀ (H' : Hp), Same H H' → Q .non H'
theorem ok_checkK {f : Addr} {fd : FuncData} (F : Fun K "_check_limits" "_check_limits" sCheck f fd) (T : LimTxt K mg) : FnOk P w K mg base CX0 1 f fd ["table"] spCheckK := by
  refine F.ok scCheck (fun vs H Q E h => ?_) (fun cdv A outer s H vs Q E hr h => ?_)
  · obtain ⟨d, k, rfl, _⟩ := h
    rfl
  · obtain ⟨d, k, rfl, hd, lt, go⟩ := h
    obtain ⟨t1, g1⟩ := T.most
    obtain ⟨t2, g2⟩ := T.great
    refine ⟨_, pss_cons (ps_if (pt_cmpR op_gt (pe_callB call_lenD (by rfl) T.len PySem.boot_len (pa_cons (pv 0) pa_nil)) (pe_glob (v := .int 2000) (by rfl) g1 ⟨t1, rfl⟩) (nomark _)) pss_never pss_nil)
      (pss_one (ps_lock (ps_if (pt_val (pe_callB (cr_any rfl) (by rfl) T.any (by decide +kernel) (pa_cons (pe_lc (own := [("many", 1)]) (g := gName 1) rfl scCheck.nd (pi_values (pv 0))
        (blkOk_by (own := [("many", 1)]) (N := ["table", "many"]) (sc := defScope sCheck) (by decide +kernel)) (fun _ _ _ _ _ => pg_name (i := 1) scCheck.nd rfl (Or.inl rfl)) (fun _ _ _ _ _ => pts_nil)
        (te := tOp (rI0 fun i j => .bl (decide (j ≤ i))) (tCB (rAbs) (tCons (tVar 1) tNil)) (tC (.int tooGreat)))
        (fun _ _ _ _ _ => pe_cmpR op_ge (pe_callB (show CallR _ (.builtin "abs") rAbs from call_abs) (by rfl) T.abs (by decide +kernel) (pa_cons (pv 1) pa_nil)) (pe_glob (v := .int tooGreat) (by rfl) g2 ⟨t2, rfl⟩) (nomark _))) pa_nil))) pss_never pss_nil))), ?_⟩
    have l1 : (numK k).length ≤ 1 := by
      unfold numK
      split <;> simp
    refine ⟨_, rfl, d, _, rfl, hd, _, _, rfl, rfl, _, rfl, ifN (decide_eq_false (by omega)) ?_⟩
    refine ⟨d, _, hd, True.intro, fun od => ?_⟩
    refine ⟨_, rfl, d, od, _, rfl, upd_same, fun L nL => ?_⟩
    have Ld : L ≠ d := fun z => by rw [z, upd_same] at nL; cases nL
    rw [upd_ne Ld] at nL
    refine blk_n (o := fun _ => .lst []) (n := (numK k).length) (fun (i : Nat) (F : Hp) => Lk d od (.dK (numK k)) H F ∧ F L = some (.lst (List.replicate i (V.bl false))))
      ⟨Lk.start.set Ld nL, upd_same⟩ (fun i F hi ⟨l, _⟩ => ⟨l.1, hi⟩) (fun F ⟨l, _⟩ => ⟨l.1, Nat.le_refl _⟩) (fun i F x F' hi ⟨l, h1⟩ hy => ?_) (fun F ⟨l, h1⟩ => ?_)
    · obtain ⟨rfl, e, he⟩ := hy
      have hx : x = .int k := by
        have hm := List.mem_of_getElem? he
        unfold numK at hm
        split at hm
        · cases hm
        · rw [List.mem_singleton] at hm
          exact (Prod.mk.inj hm).2
      subst hx
      have no : decide (tooGreat ≤ (if k < 0 then -k else k)) = false := by
        refine decide_eq_false ?_
        split <;> omega
      have ll : (List.replicate i (V.bl false)).length < sizeLine := by
        rw [List.length_replicate, sizeLine_eq]
        omega
      refine ⟨rfl, _, rfl, k, rfl, _, _, rfl, rfl, _, h1, ll, l.set Ld nL, ?_⟩
      rw [upd_same, List.replicate_succ']
      show some (HO.lst (_ ++ [V.bl (decide (tooGreat ≤ (if k < 0 then -k else k)))])) = _
      rw [no]
    · refine ⟨L, List.replicate (numK k).length false, rfl, SqL.of (by rw [List.map_replicate]; exact h1), ?_⟩
      have none' : (List.replicate (numK k).length false).any id = false := by
        rw [List.any_eq_false]
        intro b hb
        rw [List.eq_of_mem_replicate hb]
        simp
      rw [none']
      exact ⟨_, rfl, ifN rfl ⟨l.1, go _ (l.done hd)⟩⟩
def constI (k : Int) : List NI := if k = 0 then [] else [(monK [], k)]
def spConst (K : PySem.W.Frag) : Sp := fun vs H Q _ => ∃ k : Int, vs = [.int k] ∧ (k.natAbs : Int) < tooGreat ∧ ∀ (r : Addr) (H' : Hp), Same H H' → PolyV K H' r (constI k) → Q (.ref r) H'
theorem scConst : FnScope ["k", "table", "many"] ["k"] (defScope sConst) := ⟨rfl, rfl, rfl, by decide +kernel, rfl, by decide +kernel, by decide +kernel⟩
theorem ok_const {f fN fC : Addr} {fd dN' dC : FuncData} (F : Fun K "constant" "constant" sConst f fd) (T : LimTxt K mg) (GN : FnOk P w K mg base CX0 1 fN dN' ["k"] spNumber) (bN : Binds K dN' ["k"] []) (gN : mg "number" = some (.ref fN)) (kN : PySem.W.keepIn K (.ref fN) = true)
    (GC : FnOk P w K mg base CX0 1 fC dC ["table"] spCheckK) (bC : Binds K dC ["table"] []) (gC : mg "_check_limits" = some (.ref fC)) (kC : PySem.W.keepIn K (.ref fC) = true) : FnOk P w K mg base CX0 2 f fd ["k"] (spConst K) := by
  refine F.ok scConst (fun vs H Q E h => ?_) (fun cdv A outer s H vs Q E hr h => ?_)
  · obtain ⟨k, rfl, _⟩ := h
    rfl
  · obtain ⟨k, rfl, lt, go⟩ := h
    refine ⟨_, pss_cons (ps_set (i := 1) scConst.nd rfl (Or.inl rfl) (pe_call GN hr rfl gN kN bN .nil pass0 (pa_cons (pv 0) pa_nil)))
      (pss_cons (ps_expr (pe_call GC hr rfl gC kC bC .nil pass0 (pa_cons (pv 1) pa_nil)))
      (pss_one (ps_lock (ps_ret (pe_tupleOf (by rfl) T.tuple (pe_lc (own := [("many", 2)]) (g := gName 2) rfl scConst.nd (pi_values (pv 1))
        (blkOk_by (own := [("many", 2)]) (N := ["k", "table", "many"]) (sc := defScope sConst) (by decide +kernel)) (fun _ _ _ _ _ => pg_name (i := 2) scConst.nd rfl (Or.inl rfl)) (fun _ _ _ _ _ => pts_nil)
        (fun _ _ _ _ _ => pe_tup (pa_cons (pe_tup pa_nil) (pa_cons (pv 2) pa_nil))))))))), ?_⟩
    refine ⟨_, rfl, k, rfl, fun d H1 s1 n1 e1 => ?_⟩
    refine ⟨_, rfl, d, k, rfl, e1, lt, fun H2 s2 => ?_⟩
    have hd := s2 _ _ e1
    refine ⟨d, _, hd, True.intro, fun od => ?_⟩
    refine ⟨_, rfl, d, od, _, rfl, upd_same, fun L nL => ?_⟩
    have Ld : L ≠ d := fun z => by rw [z, upd_same] at nL; cases nL
    rw [upd_ne Ld] at nL
    refine blk_n (o := fun _ => .lst []) (n := (numK k).length) (fun (i : Nat) (F : Hp) => Lk d od (.dK (numK k)) H2 F ∧ ∃ zs, F L = some (.lst zs) ∧ zs.length = i ∧ KeyVs K F (((constI k).take i).map pairK) zs)
      ⟨Lk.start.set Ld nL, [], upd_same, rfl, .nil⟩ (fun i F hi ⟨l, _⟩ => ⟨l.1, hi⟩) (fun F ⟨l, _⟩ => ⟨l.1, Nat.le_refl _⟩) (fun i F x F' hi ⟨l, zs, h1, h2, h3⟩ hy => ?_) (fun F ⟨l, zs, h1, h2, h3⟩ => ?_)
    · obtain ⟨rfl, e, he⟩ := hy
      have hm := List.mem_of_getElem? he
      have k0 : k ≠ 0 := fun z => by
        unfold numK at hm
        rw [if_pos z] at hm
        cases hm
      have i0 : i = 0 := by
        unfold numK at hi
        rw [if_neg k0] at hi
        have : i < 1 := hi
        omega
      subst i0
      have hx : x = .int k := by
        unfold numK at hm
        rw [if_neg k0, List.mem_singleton] at hm
        exact (Prod.mk.inj hm).2
      subst hx
      obtain rfl : zs = [] := List.length_eq_zero_iff.mp h2
      refine ⟨rfl, by show 0 ≤ sizeLine; exact Nat.zero_le _, fun a na => ⟨_, rfl, by show 2 ≤ sizeLine; decide, fun t nt => ?_⟩⟩
      have l2 := (l.new (o := .tup []) na).new (o := .tup [.ref a, .int k]) nt
      have aL : a ≠ L := fun z => by rw [z, h1] at na; cases na
      have ta : t ≠ a := fun z => by rw [z, upd_same] at nt; cases nt
      have hL : upd (upd F' a (.tup [])) t (.tup [.ref a, .int k]) L = some (.lst []) := by
        rw [upd_ne (ne_of_none ((upd_ne (Ne.symm aL)).trans h1) nt), upd_ne (Ne.symm aL)]
        exact h1
      have ha : upd (upd F' a (.tup [])) t (.tup [.ref a, .int k]) a = some (.tup []) := by
        rw [upd_ne (Ne.symm ta)]
        exact upd_same
      have kt : KeyV K (upd (upd F' a (.tup [])) t (.tup [.ref a, .int k])) (pairK (monK [], k)) (.ref t) := .tup upd_same (.cons (.tup ha .nil) (.cons (.int k) .nil))
      generalize upd (upd F' a (.tup [])) t (.tup [.ref a, .int k]) = G at l2 hL kt ⊢
      refine ⟨[], hL, by show 0 < sizeLine; decide, l2.set Ld nL, [.ref t], upd_same, rfl, ?_⟩
      have e1 : (constI k).take 1 = [(monK [], k)] := by
        unfold constI
        rw [if_neg k0]
        rfl
      show KeyVs K _ (((constI k).take 1).map pairK) _
      rw [e1]
      exact .cons (kt.up (Tups.put fun xs q => by
        rcases q with q | ⟨o, q⟩
        · rw [hL] at q; cases q
        · rw [hL] at q; cases q) _ _) .nil
    · have e1 : (constI k).take (numK k).length = constI k := by
        unfold constI numK
        split <;> rfl
      rw [e1] at h3
      refine .inl ⟨L, zs, rfl, SqL.of h1, fun t nt => ⟨(upd_ne (ne_of_none l.1 nt)).trans l.1, ?_⟩⟩
      have l2 := l.new (o := .tup zs) nt
      refine go t _ (fun a o q => l2.done hd a o (s2 a o (s1 a o q))) ⟨?_, ?_, ?_⟩
      · have td : t ≠ d := fun z => by rw [z, l.1] at nt; cases nt
        refine .tup (xs := zs) ((upd_ne td).trans upd_same) (KeyVs.up (fun a xs q => ?_) _ _ h3)
        have ne : a ≠ d := fun z => by rw [z, l.1] at q; cases q
        have nt' : a ≠ t := fun z => by rw [z, nt] at q; cases q
        rw [upd_ne ne, upd_ne nt']
        exact q
      · intro x hx
        unfold constI at hx
        split at hx
        · cases hx
        · rw [List.mem_singleton] at hx
          exact ⟨[], by rw [hx]⟩
      · unfold constI
        split
        · exact List.nodup_nil
        · exact List.nodup_cons.mpr ⟨by simp, List.nodup_nil⟩
end
end K1P

set_option Elab.async false
set_option linter.all false
set_option maxRecDepth 100000
set_option maxHeartbeats 4000000
/-! The order of monomials; lists of pairs as tables. -/
namespace K1P
open PySem L2 K1D
open PySem.W (alike alikeAll dataLt keyToks keyToksAll)
open PyProof.Rows (itemOrd)
mutual
theorem eqv_key : ∀ a b : NestedKey, PyData.eqv a.data b.data = NestedKey.beq a b
  | .none, .none => by simp [NestedKey.data, NestedKey.beq, PyData.eqv]
  | .none, .num _ => by simp [NestedKey.data, NestedKey.beq, PyData.eqv]
  | .none, .text _ => by simp [NestedKey.data, NestedKey.beq, PyData.eqv]
  | .none, .tup _ => by simp [NestedKey.data, NestedKey.beq, PyData.eqv]
  | .num _, .none => by simp [NestedKey.data, NestedKey.beq, PyData.eqv]
  | .num a, .num b => by simp only [NestedKey.data, NestedKey.beq, PyData.eqv]; rfl
  | .num _, .text _ => by simp [NestedKey.data, NestedKey.beq, PyData.eqv]
  | .num _, .tup _ => by simp [NestedKey.data, NestedKey.beq, PyData.eqv]
  | .text _, .none => by simp [NestedKey.data, NestedKey.beq, PyData.eqv]
  | .text _, .num _ => by simp [NestedKey.data, NestedKey.beq, PyData.eqv]
  | .text a, .text b => by simp only [NestedKey.data, NestedKey.beq, PyData.eqv]; rfl
  | .text _, .tup _ => by simp [NestedKey.data, NestedKey.beq, PyData.eqv]
  | .tup _, .none => by simp [NestedKey.data, NestedKey.beq, PyData.eqv]
  | .tup _, .num _ => by simp [NestedKey.data, NestedKey.beq, PyData.eqv]
  | .tup _, .text _ => by simp [NestedKey.data, NestedKey.beq, PyData.eqv]
  | .tup a, .tup b => by
    simp only [NestedKey.data, NestedKey.beq, PyData.eqv]
    exact eqv_keys a b
theorem eqv_keys : ∀ a b : List NestedKey, PyData.eqvAll (NestedKey.datas a) (NestedKey.datas b) = NestedKey.beqAll a b
  | [], [] => by simp [NestedKey.datas, NestedKey.beqAll, PyData.eqvAll]
  | [], _ :: _ => by simp [NestedKey.datas, NestedKey.beqAll, PyData.eqvAll]
  | _ :: _, [] => by simp [NestedKey.datas, NestedKey.beqAll, PyData.eqvAll]
  | x :: a, y :: b => by
    simp only [NestedKey.datas, NestedKey.beqAll, PyData.eqvAll, eqv_key x y, eqv_keys a b]
end
theorem eqv_iff (a b : NestedKey) : PyData.eqv a.data b.data = true ↔ a = b := by
  rw [eqv_key]
  exact ⟨NestedKey.eq_of_beq a b, fun e => by rw [e]; exact NestedKey.beq_self b⟩
theorem lex_lone (x : List (Int ⊕ List Nat)) : PyProof.Rows.lexLt itemOrd (x ++ []) (x ++ [Sum.inl 0]) = true := by
  rw [PySem.W.lex_pre]
  rfl
theorem eqv_of_toks {x y : PyData} (h : alike x y = true) (e : keyToks x = keyToks y) : PyData.eqv x y = true := by
  cases q : PyData.eqv x y with
  | true => rfl
  | false =>
    have z := (PySem.W.toks_eqv x y h).2 q [] [Sum.inl 0]
    rw [e, lex_lone, PyProof.Rows.lex_irrefl] at z
    cases z
/-- one monomial ahead of another -/
def ltK (a b : NestedKey) : Bool := dataLt a.data b.data
theorem ltK_irr (a : NestedKey) : ltK a a = false := PyProof.Rows.lex_irrefl (O := itemOrd) _
theorem ltK_trans {a b c : NestedKey} (h : ltK a b = true) (g : ltK b c = true) : ltK a c = true := PyProof.Rows.lex_trans (O := itemOrd) _ _ _ h g
theorem ltK_asymm {a b : NestedKey} (h : ltK a b = true) : ltK b a = false := by
  cases q : ltK b a with
  | false => rfl
  | true =>
    have := ltK_trans h q
    rw [ltK_irr] at this
    cases this
theorem ltK_total {a b : NestedKey} (ma : IsMon a) (mb : IsMon b) (ne : a ≠ b) (h : ltK a b = false) : ltK b a = true := by
  cases q : ltK b a with
  | true => rfl
  | false =>
    have e := PyProof.Rows.lex_total (O := itemOrd) _ _ h q
    obtain ⟨x, rfl⟩ := ma
    obtain ⟨y, rfl⟩ := mb
    exact absurd ((eqv_iff _ _).mp (eqv_of_toks (mon_alike x y) e)) ne
/-- two rows, each strictly rising, of the same things -/
theorem rising_ext {α : Type} {R : α → α → Prop} (asy : ∀ x y, R x y → ¬ R y x) : ∀ {l m : List α}, l.Pairwise R → m.Pairwise R → (∀ x, x ∈ l ↔ x ∈ m) → l = m
  | [], [], _, _, _ => rfl
  | [], y :: m, _, _, h => absurd ((h y).mpr (List.mem_cons_self ..)) (by simp)
  | x :: l, [], _, _, h => absurd ((h x).mp (List.mem_cons_self ..)) (by simp)
  | x :: l, y :: m, hl, hm, h => by
    have pl := List.pairwise_cons.mp hl
    have pm := List.pairwise_cons.mp hm
    have e : x = y := by
      rcases List.mem_cons.mp ((h x).mp (List.mem_cons_self ..)) with e | e
      · exact e
      · rcases List.mem_cons.mp ((h y).mpr (List.mem_cons_self ..)) with e' | e'
        · exact e'.symm
        · exact absurd (pm.1 x e) (asy _ _ (pl.1 y e'))
    subst e
    rw [rising_ext asy pl.2 pm.2 fun z => ?_]
    constructor
    · intro hz
      rcases List.mem_cons.mp ((h z).mp (List.mem_cons_of_mem _ hz)) with e | e
      · subst e
        exact absurd (pl.1 z hz) (fun r => asy _ _ r r)
      · exact e
    · intro hz
      rcases List.mem_cons.mp ((h z).mpr (List.mem_cons_of_mem _ hz)) with e | e
      · subst e
        exact absurd (pm.1 z hz) (fun r => asy _ _ r r)
      · exact e
def ltN (x y : NI) : Prop := ltK x.1 y.1 = true
theorem ltN_asy (x y : NI) (h : ltN x y) : ¬ ltN y x := fun q => by
  have := ltK_asymm h
  rw [show ltK y.1 x.1 = true from q] at this
  cases this
theorem rise_sorted {m : List NI} (mo : MonsI m) (nd : (keysI m).Nodup) : (riseI m).Pairwise ltN := by
  have le : (riseI m).Pairwise fun x y => PySem.W.dataLe false (fun x : NI => (pairK x).data) x y = true := by
    refine List.pairwise_mergeSort (fun a b c h1 h2 => ?_) (fun a b => ?_) m
    · rw [PySem.W.dataLe_eq] at h1 h2 ⊢
      simp only [cond_false, Bool.not_eq_true'] at h1 h2 ⊢
      cases q : dataLt (pairK c).data (pairK a).data with
      | false => rfl
      | true =>
        rcases PyProof.Rows.lex_negTrans (O := itemOrd) (keyToks (pairK c).data) (keyToks (pairK b).data) (keyToks (pairK a).data) q with z | z
        · rw [show dataLt (pairK c).data (pairK b).data = true from z] at h2; cases h2
        · rw [show dataLt (pairK b).data (pairK a).data = true from z] at h1; cases h1
    · rw [PySem.W.dataLe_eq]
      simp only [cond_false]
      cases q : dataLt (pairK b).data (pairK a).data with
      | false => rfl
      | true =>
        cases q2 : dataLt (pairK a).data (pairK b).data with
        | false => rfl
        | true =>
          have := PyProof.Rows.lex_trans (O := itemOrd) _ _ _ q q2
          rw [PyProof.Rows.lex_irrefl] at this
          cases this
  have nd' : (riseI m).Pairwise fun x y => x.1 ≠ y.1 := by
    have : (keysI (riseI m)).Nodup := ((rise_perm m).map fun x : NI => x.1).nodup_iff.mpr nd
    exact List.pairwise_map.mp this
  refine List.Pairwise.imp_of_mem (fun {x y} hx hy h => ?_) (le.and nd')
  obtain ⟨h1, ne⟩ := h
  have mx := mo x ((rise_perm m).mem_iff.mp hx)
  have my := mo y ((rise_perm m).mem_iff.mp hy)
  rw [PySem.W.dataLe_eq] at h1
  simp only [cond_false, Bool.not_eq_true'] at h1
  have al : alike y.1.data x.1.data = true := by
    obtain ⟨a, ea⟩ := mx
    obtain ⟨b, eb⟩ := my
    rw [ea, eb]
    exact mon_alike b a
  have h2 : dataLt (.tuple [y.1.data, .int y.2]) (.tuple [x.1.data, .int x.2]) = false := h1
  rw [PySem.W.dataLt_pair al (by simp [alike])] at h2
  have nq : PyData.eqv y.1.data x.1.data = false := by
    cases q : PyData.eqv y.1.data x.1.data with
    | false => rfl
    | true => exact absurd ((eqv_iff _ _).mp q).symm ne
  rw [nq] at h2
  exact ltK_total my mx (fun z => ne z.symm) h2
theorem rise_mem {m : List NI} {x : NI} : x ∈ riseI m ↔ x ∈ m := (rise_perm m).mem_iff
/-- the same table, the same polynomial -/
theorem rise_ext {m n : List NI} (hm : MonsI m) (hn : MonsI n) (dm : (keysI m).Nodup) (dn : (keysI n).Nodup) (h : ∀ k, valI m k = valI n k) : riseI m = riseI n :=
  rising_ext ltN_asy (rise_sorted hm dm) (rise_sorted hn dn) fun x => by
    rw [rise_mem, rise_mem]
    obtain ⟨k, c⟩ := x
    rw [← valI_mem dm, ← valI_mem dn, h k]
end K1P

set_option Elab.async false
set_option linter.all false
set_option maxRecDepth 100000
set_option maxHeartbeats 4000000
/-! The law's own reader of its script: flow, load, draw, pick. -/
namespace K0
open PySem L2
def top (i : Nat) : Stmt := PySem.Challenge.pw_figurehold_k01_sums_of_polynomials.main.body.getD i (.Pass ⟨0, 0, 0, 0⟩)
abbrev sFlow : Stmt := top 18
abbrev sLoad : Stmt := top 19
abbrev sDraw : Stmt := top 20
abbrev sPick : Stmt := top 21
/-- at p the reader: its cells at l, how many are read, what is left of one, how many draws, the mixed number, the kind -/
def row (l : Addr) (i c n m b : Int) : List V := [.ref l, .int i, .int c, .int n, .int m, .int b]
def FlowL (H : Hp) (p l : Addr) : Prop := ∃ (ns : List Int) (i c n m b : Int), H p = some (.lst (row l i c n m b)) ∧ H l = some (.lst (ns.map V.int)) ∧ 0 ≤ i
def FlowAt (H : Hp) (p : Addr) : Prop := ∃ l : Addr, FlowL H p l
theorem flow_ne {H : Hp} {p l : Addr} {ns : List Int} {i c n m b : Int} (h1 : H p = some (.lst (row l i c n m b))) (h2 : H l = some (.lst (ns.map V.int))) : l ≠ p := fun z => by
  rw [z, h1] at h2
  cases ns with
  | nil => cases h2
  | cons x xs => cases h2
theorem FlowL.put {H : Hp} {p l : Addr} {ns : List Int} {i c n m b : Int} (h1 : H p = some (.lst (row l i c n m b))) (h2 : H l = some (.lst (ns.map V.int))) {i' c' n' m' b' : Int} (h : 0 ≤ i') :
    FlowL (upd H p (.lst (row l i' c' n' m' b'))) p l := ⟨ns, i', c', n', m', b', upd_same, by rw [upd_ne (flow_ne h1 h2)]; exact h2, h⟩
theorem FlowL.up {H : Hp} {p l : Addr} (h : FlowL H p l) {q : Addr} {o : HO} (hn : H q = none) : FlowL (upd H q o) p l := by
  obtain ⟨ns, i, c, n, m, b, h1, h2, h3⟩ := h
  exact ⟨ns, i, c, n, m, b, by rw [upd_ne (ne_of_none h1 hn)]; exact h1, by rw [upd_ne (ne_of_none h2 hn)]; exact h2, h3⟩
theorem FlowAt.up {H : Hp} {p : Addr} (h : FlowAt H p) {q : Addr} {o : HO} (hn : H q = none) : FlowAt (upd H q o) p := h.elim fun l h => ⟨l, h.up hn⟩
/-- a list of one's own is changed -/
theorem FlowL.set {H : Hp} {p l : Addr} (h : FlowL H p l) {q : Addr} {o : HO} (qp : q ≠ p) (ql : q ≠ l) : FlowL (upd H q o) p l := by
  obtain ⟨ns, i, c, n, m, b, h1, h2, h3⟩ := h
  exact ⟨ns, i, c, n, m, b, (upd_ne (Ne.symm qp)).trans h1, (upd_ne (Ne.symm ql)).trans h2, h3⟩
def spLoad : Sp := fun vs H Q _ => ∃ p l : Addr, vs = [.ref p] ∧ FlowL H p l ∧ ∀ xs, FlowL (upd H p (.lst xs)) p l → Q .non (upd H p (.lst xs))
def spDraw : Sp := fun vs H Q _ => ∃ (p l : Addr) (k : Int), vs = [.ref p, .int k] ∧ FlowL H p l ∧ k.natAbs < 2 ^ 8000 ∧ ∀ z xs, 0 ≤ z → (z < k ∨ z = 0) → FlowL (upd H p (.lst xs)) p l → Q (.int z) (upd H p (.lst xs))
def spPick : Sp := fun vs H Q _ => ∃ (p q : Addr) (ys : List V), vs = [.ref p, .ref q] ∧ FlowAt H p ∧ H q = some (.lst ys) ∧ q ≠ p ∧ ys ≠ [] ∧ ys.length ≤ 1000 ∧ ∀ v xs, v ∈ ys → FlowAt (upd H p (.lst xs)) p → Q v (upd H p (.lst xs))
def spFlow (K : PySem.W.Frag) : Sp := fun vs H Q _ => ∃ (a : Addr) (ns : List Int), vs = [.ref a] ∧ SqL K H a (ns.map V.int) ∧ ∀ H' p, Same H H' → H p = none → FlowAt H' p → Q (.ref p) H'
structure FlowTxt (mg : Str → Option Value) (fL fD : Addr) (K : PySem.W.Frag) : Prop where
  len : mg "len" = none
  int : mg "int" = none
  abs : mg "abs" = none
  max : mg "max" = none
  list : mg "list" = none
  gL : mg "_law_load" = some (.ref fL)
  kL : PySem.W.keepIn K (.ref fL) = true
  gD : mg "_law_draw" = some (.ref fD)
  kD : PySem.W.keepIn K (.ref fD) = true
section
variable {P : Program} {w : World} {K : PySem.W.Frag} {mg : Str → Option Value} {base : Heap} {fL fD : Addr}
theorem scL : FnScope ["flow", "cell"] ["flow"] (defScope sLoad) := ⟨rfl, rfl, rfl, by decide +kernel, rfl, by decide +kernel, by decide +kernel⟩
theorem ok_load {f : Addr} {fd : FuncData} (F : Fun K "_law_load" "_law_load" sLoad f fd) (T : FlowTxt mg fL fD K) : FnOk P w K mg base CX0 1 f fd ["flow"] spLoad := by
  refine F.ok scL (fun vs H Q E h => ?_) (fun cdv A outer s H vs Q E hr h => ?_)
  · obtain ⟨p, l, rfl, _⟩ := h
    rfl
  · obtain ⟨p, l, rfl, ⟨ns, i, c, n, m, b, h1, h2, h3⟩, k⟩ := h
    refine ⟨_, pss_cons (ps_if (pt_cmpR op_ge (pe_ix ix_list (pv 0) pe_int (fun _ _ => rfl)) (pe_callB call_len_seq (by rfl) T.len PySem.boot_len (pa_cons (pe_ix ix_list (pv 0) pe_int (fun _ _ => rfl)) pa_nil)) (nomark _))
        (pss_cons (ps_asg pe_int (pg_sub (pv 0) pe_int set_list)) (pss_cons (ps_asg pe_int (pg_sub (pv 0) pe_int set_list)) (pss_cons (ps_asg pe_int (pg_sub (pv 0) pe_int set_list)) (pss_one ps_retN)))) pss_nil)
      (pss_cons (ps_set (i := 1) scL.nd rfl (Or.inl rfl) (pe_callTy call_int1 (by rfl) T.int (by decide +kernel) (pa_cons (pe_ix ix_list (pe_ix ix_list (pv 0) pe_int (fun _ _ => rfl)) (pe_ix ix_list (pv 0) pe_int (fun _ _ => rfl)) (fun _ _ => rfl)) pa_nil)))
      (pss_cons (ps_asg (pe_op op_add (pe_ix ix_list (pv 0) pe_int (fun _ _ => rfl)) pe_int) (pg_sub (pv 0) pe_int set_list))
      (pss_cons (ps_asg (pe_op op_fdiv (pe_callB call_abs (by rfl) T.abs (by decide +kernel) (pa_cons (pv 1) pa_nil)) pe_int) (pg_sub (pv 0) pe_int set_list))
      (pss_cons (ps_asg pe_int (pg_sub (pv 0) pe_int set_list))
      (pss_cons (ps_asg (pe_op op_mod (pe_callTy call_int1 (by rfl) T.int (by decide +kernel) (pa_cons (pv 1) pa_nil)) pe_int) (pg_sub (pv 0) pe_int set_list))
      (pss_one (ps_if (pt_cmpR op_eq (pe_ix ix_list (pv 0) pe_int (fun _ _ => rfl)) pe_int (nomark _))
        (pss_cons (ps_asg (pe_op op_mod (pe_callTy call_int1 (by rfl) T.int (by decide +kernel) (pa_cons (pe_ix ix_list (pv 0) pe_int (fun _ _ => rfl)) pa_nil)) pe_int) (pg_sub (pv 0) pe_int set_list))
          (pss_one (ps_asg pe_int (pg_sub (pv 0) pe_int set_list)))) pss_nil))))))), ?_⟩
    have hn := flow_ne h1 h2
    have go : ∀ {G : Hp} {xs : List V}, Q .non (upd H p (.lst xs)) → G = upd H p (.lst xs) → Q .non G := fun q e => by rw [e]; exact q
    -- flow[1] >= len(flow[0])
    refine ⟨_, rfl, p, _, _, _, rfl, rfl, SqL.of h1, rfl, _, rfl, p, _, _, _, rfl, rfl, SqL.of h1, rfl, l, _, rfl, .inl (SqL.of h2), _, _, rfl, rfl, _, rfl, ?_⟩
    refine ite2 (fun hc => ?_) (fun hc => ?_)
    · refine ⟨_, rfl, p, _, _, _, rfl, rfl, h1, rfl, _, rfl, p, _, _, _, rfl, rfl, upd_same, rfl, _, rfl, p, _, _, _, rfl, rfl, upd_same, rfl, ?_⟩
      show Q .non _
      rw [upd_upd, upd_upd]
      exact k _ (FlowL.put h1 h2 h3)
    · have hc' : i < ((ns.map V.int).length : Nat) := by
        have z : ¬ (((ns.map V.int).length : Nat) : Int) ≤ i := fun q => hc (decide_eq_true q)
        omega
      obtain ⟨j, rfl⟩ : ∃ j : Nat, i = j := ⟨i.toNat, by omega⟩
      have hj : j < ns.length := by
        rw [List.length_map] at hc'
        omega
      have hv : (ns.map V.int)[j]? = some (V.int ns[j]) := by simp [hj]
      refine ⟨_, rfl, p, _, _, _, rfl, rfl, SqL.of h1, rfl, _, rfl, p, _, _, _, rfl, rfl, SqL.of h1, rfl, l, _, _, _, rfl, rfl, SqL.of h2, atI_nat hv, .inl ⟨_, rfl, ?_⟩⟩
      refine ⟨_, rfl, p, _, _, _, rfl, rfl, SqL.of h1, rfl, _, _, rfl, rfl, ?_⟩
      refine ⟨_, rfl, p, _, _, _, rfl, rfl, h1, rfl, ?_⟩
      refine ⟨_, rfl, _, rfl, _, _, rfl, rfl, ⟨by decide, by decide⟩, _, rfl, p, _, _, _, rfl, rfl, upd_same, rfl, ?_⟩
      refine ⟨_, rfl, p, _, _, _, rfl, rfl, upd_same, rfl, ?_⟩
      refine ⟨_, rfl, .inl ⟨_, rfl, _, _, rfl, rfl, (by show (0 : Int) < 2; decide), _, rfl, p, _, _, _, rfl, rfl, upd_same, rfl, ?_⟩⟩
      refine ⟨_, rfl, p, _, _, _, rfl, rfl, SqL.of upd_same, rfl, rfl, _, rfl, ?_⟩
      refine ite2 (fun _ => ?_) (fun _ => ?_)
      · refine ⟨_, rfl, p, _, _, _, rfl, rfl, SqL.of upd_same, rfl, .inl ⟨_, rfl, _, _, rfl, rfl, (by show (0 : Int) < 2147483629; decide), _, rfl, p, _, _, _, rfl, rfl, upd_same, rfl, ?_⟩⟩
        refine ⟨_, rfl, p, _, _, _, rfl, rfl, upd_same, rfl, ?_⟩
        show Q .non _
        simp only [upd_upd]
        exact k _ (FlowL.put h1 h2 (by omega))
      · show Q .non _
        simp only [upd_upd]
        exact k _ (FlowL.put h1 h2 (by omega))
theorem scD : FnScope ["flow", "many", "drawn"] ["flow", "many"] (defScope sDraw) := ⟨rfl, rfl, rfl, by decide +kernel, rfl, by decide +kernel, by decide +kernel⟩
theorem max1_pos (k : Int) : (0 : Int) < (if k > 1 then k else 1) := by
  split <;> omega
theorem max1_of {k z : Int} (h : z < (if k > 1 then k else 1)) (h0 : 0 ≤ z) : z < k ∨ z = 0 := by
  split at h
  · exact .inl h
  · exact .inr (by omega)
theorem max1_wide {c k : Int} (h : k.natAbs < 2 ^ 8000) : CDivW c (if k > 1 then k else 1) := by
  refine wide_div (max1_pos k) (b := 8000) ?_ (by decide) (by decide)
  split
  · exact h
  · exact Nat.lt_of_lt_of_le (by decide : (1 : Int).natAbs < 2 ^ 1) (Nat.pow_le_pow_right (by decide) (by decide))
theorem ok_draw {f : Addr} {fd fdL : FuncData} (F : Fun K "_law_draw" "_law_draw" sDraw f fd) (FL : Fun K "_law_load" "_law_load" sLoad fL fdL) (bL : Binds K fdL ["flow"] []) (T : FlowTxt mg fL fD K) : FnOk P w K mg base CX0 2 f fd ["flow", "many"] spDraw := by
  have GL : FnOk P w K mg base CX0 1 fL fdL ["flow"] spLoad := ok_load FL T
  refine F.ok scD (fun vs H Q E h => ?_) (fun cdv A outer s H vs Q E hr h => ?_)
  · obtain ⟨p, l, k, rfl, _⟩ := h
    rfl
  · obtain ⟨p, l, k, rfl, hf, hk, go⟩ := h
    refine ⟨_, pss_cons (ps_if (pt_cmpR op_eq (pe_ix ix_list (pv 0) pe_int (fun _ _ => rfl)) pe_int (nomark _)) (pss_one (ps_expr (pe_call GL hr rfl T.gL T.kL bL .nil pass0 (pa_cons (pv 0) pa_nil)))) pss_nil)
      (pss_cons (ps_asg (pe_op op_sub (pe_ix ix_list (pv 0) pe_int (fun _ _ => rfl)) pe_int) (pg_sub (pv 0) pe_int set_list))
      (pss_cons (ps_if (pt_cmpR op_eq (pe_ix ix_list (pv 0) pe_int (fun _ _ => rfl)) pe_int (nomark _))
        (pss_cons (ps_asg (pe_op op_mod (pe_callTy call_int1 (by rfl) T.int (by decide +kernel) (pa_cons (pe_op op_add (pe_op op_add (pe_op op_mul (pe_ix ix_list (pv 0) pe_int (fun _ _ => rfl)) pe_int) (pe_ix ix_list (pv 0) pe_int (fun _ _ => rfl))) pe_int) pa_nil)) pe_int) (pg_sub (pv 0) pe_int set_list))
          (pss_one (ps_ret (pe_op op_modN (pe_callTy call_int1 (by rfl) T.int (by decide +kernel) (pa_cons (pe_op op_fdiv (pe_ix ix_list (pv 0) pe_int (fun _ _ => rfl)) pe_int) pa_nil))
            (pe_callB (call_max2 rfl) (by rfl) T.max (by decide +kernel) (pa_cons pe_int (pa_cons (pv 1) pa_nil))))))) pss_nil)
      (pss_cons (ps_set (i := 2) scD.nd rfl (Or.inl rfl) (pe_op op_modN (pe_callTy call_int1 (by rfl) T.int (by decide +kernel) (pa_cons (pe_ix ix_list (pv 0) pe_int (fun _ _ => rfl)) pa_nil))
            (pe_callB (call_max2 rfl) (by rfl) T.max (by decide +kernel) (pa_cons pe_int (pa_cons (pv 1) pa_nil)))))
      (pss_cons (ps_asg (pe_op op_fdivW (pe_ix ix_list (pv 0) pe_int (fun _ _ => rfl)) (pe_callB (call_max2 rfl) (by rfl) T.max (by decide +kernel) (pa_cons pe_int (pa_cons (pv 1) pa_nil)))) (pg_sub (pv 0) pe_int set_list))
      (pss_cons (ps_if (pt_cmpR op_eq (pe_ix ix_list (pv 0) pe_int (fun _ _ => rfl)) pe_int (nomark _)) (pss_one (ps_asg pe_int (pg_sub (pv 0) pe_int set_list))) pss_nil)
      (pss_one (ps_ret (pv 2)))))))), ?_⟩
    have hf0 := hf
    obtain ⟨ns0, i0, c0, n0, m0, b0, g1, g2, g3⟩ := hf0
    refine ⟨_, rfl, p, _, _, _, rfl, rfl, SqL.of g1, rfl, rfl, _, rfl, ?_⟩
    refine ite2 (fun _ => ⟨_, rfl, p, l, rfl, hf, fun xs hff => ?a⟩) (fun _ => ?b)
    case' a =>
      have hup : ∀ o, upd (upd H p (.lst xs)) p o = upd H p o := fun _ => upd_upd
      generalize upd H p (.lst xs) = G at hff hup ⊢
    case' b =>
      refine (?_ : ∀ G : Hp, FlowL G p l → (∀ o, upd G p o = upd H p o) → (?t2 : Hp → Prop) G) H hf (fun _ => rfl)
      intro G hff hup
    all_goals
      obtain ⟨ns, i, c, n, m, b, h1, h2, h3⟩ := hff
      refine ⟨_, rfl, p, _, _, _, rfl, rfl, SqL.of h1, rfl, _, _, rfl, rfl, _, rfl, p, _, _, _, rfl, rfl, h1, rfl, ?_⟩
      refine ⟨_, rfl, p, _, _, _, rfl, rfl, SqL.of upd_same, rfl, rfl, _, rfl, ?_⟩
      refine ite2 (fun _ => ?_) (fun _ => ?_)
      · refine ⟨_, rfl, p, _, _, _, rfl, rfl, SqL.of upd_same, rfl, _, _, rfl, rfl, .inr (by decide), ?_⟩
        refine ⟨_, rfl, p, _, _, _, rfl, rfl, SqL.of upd_same, rfl, _, _, rfl, rfl, _, _, rfl, rfl, .inl ⟨_, rfl, ?_⟩⟩
        refine ⟨_, _, rfl, rfl, (by show (0 : Int) < 2147483647; decide), _, rfl, p, _, _, _, rfl, rfl, upd_same, rfl, ?_⟩
        refine ⟨_, rfl, p, _, _, _, rfl, rfl, SqL.of upd_same, rfl, _, _, rfl, rfl, ⟨by decide, by decide⟩, .inl ⟨_, rfl, ?_⟩⟩
        refine ⟨_, rfl, _, _, rfl, _, _, rfl, rfl, Int.ne_of_gt (max1_pos k), ?_⟩
        show Q (.int _) _
        simp only [upd_upd, hup]
        refine go _ _ (Int.fmod_nonneg_of_pos _ (max1_pos k)) (max1_of (Int.fmod_lt_of_pos _ (max1_pos k)) (Int.fmod_nonneg_of_pos _ (max1_pos k))) ?_
        rw [← hup]
        exact FlowL.put h1 h2 h3
      · refine ⟨_, rfl, p, _, _, _, rfl, rfl, SqL.of upd_same, rfl, .inl ⟨_, rfl, ?_⟩⟩
        refine ⟨_, rfl, _, _, rfl, _, _, rfl, rfl, Int.ne_of_gt (max1_pos k), ?_⟩
        refine ⟨_, rfl, p, _, _, _, rfl, rfl, SqL.of upd_same, rfl, _, rfl, _, _, rfl, _, _, rfl, rfl, max1_wide hk, ?_⟩
        refine ⟨_, rfl, p, _, _, _, rfl, rfl, upd_same, rfl, ?_⟩
        refine ⟨_, rfl, p, _, _, _, rfl, rfl, SqL.of upd_same, rfl, rfl, _, rfl, ?_⟩
        refine ite2 (fun _ => ?_) (fun _ => ?_)
        · refine ⟨_, rfl, p, _, _, _, rfl, rfl, upd_same, rfl, _, rfl, ?_⟩
          show Q (.int _) _
          simp only [upd_upd, hup]
          refine go _ _ (Int.fmod_nonneg_of_pos _ (max1_pos k)) (max1_of (Int.fmod_lt_of_pos _ (max1_pos k)) (Int.fmod_nonneg_of_pos _ (max1_pos k))) ?_
          rw [← hup]
          exact FlowL.put h1 h2 h3
        · refine ⟨_, rfl, ?_⟩
          show Q (.int _) _
          simp only [upd_upd, hup]
          refine go _ _ (Int.fmod_nonneg_of_pos _ (max1_pos k)) (max1_of (Int.fmod_lt_of_pos _ (max1_pos k)) (Int.fmod_nonneg_of_pos _ (max1_pos k))) ?_
          rw [← hup]
          exact FlowL.put h1 h2 h3
theorem scP : FnScope ["flow", "things"] ["flow", "things"] (defScope sPick) := ⟨rfl, rfl, rfl, by decide +kernel, rfl, by decide +kernel, by decide +kernel⟩
theorem ok_pick {f : Addr} {fd fdD : FuncData} (F : Fun K "_law_pick" "_law_pick" sPick f fd) (GD : FnOk P w K mg base CX0 2 fD fdD ["flow", "many"] spDraw) (bD : Binds K fdD ["flow", "many"] []) (T : FlowTxt mg fL fD K) : FnOk P w K mg base CX0 3 f fd ["flow", "things"] spPick := by
  refine F.ok scP (fun vs H Q E h => ?_) (fun cdv A outer s H vs Q E hr h => ?_)
  · obtain ⟨p, q, ys, rfl, _⟩ := h
    rfl
  · obtain ⟨p, q, ys, rfl, hf, hq, hne, hy, hlen, go⟩ := h
    refine ⟨_, pss_one (ps_ret (pe_ix ix_list (pv 1) (pe_call GD hr rfl T.gD T.kD bD .nil pass0 (pa_cons (pv 0) (pa_cons (pe_callB call_len_seq (by rfl) T.len PySem.boot_len (pa_cons (pv 1) pa_nil)) pa_nil))) (fun _ _ => rfl))), ?_⟩
    have hl : ys.length ≠ 0 := fun z => hy (List.length_eq_zero_iff.mp z)
    have hw : ((ys.length : Nat) : Int).natAbs < 2 ^ 8000 := by
      rw [Int.natAbs_natCast]
      exact Nat.lt_of_le_of_lt hlen (Nat.lt_of_lt_of_le (by decide : 1000 < 2 ^ 10) (Nat.pow_le_pow_right (by decide) (by decide)))
    obtain ⟨l, hf⟩ := hf
    refine ⟨_, rfl, _, rfl, _, rfl, q, _, rfl, .inl (SqL.of hq), p, l, _, rfl, hf, hw, fun z xs h0 hz hff => ?_⟩
    obtain ⟨j, rfl⟩ : ∃ j : Nat, z = j := ⟨z.toNat, by omega⟩
    have hj : j < ys.length := by omega
    have hv : ys[j]? = some ys[j] := by simp [hj]
    exact ⟨q, ys, _, _, rfl, rfl, SqL.of (by rw [upd_ne hne]; exact hq), atI_nat hv, go _ _ (List.getElem_mem hj) ⟨l, hff⟩⟩
theorem scF : FnScope ["script", "mixed", "cell"] ["script"] (defScope sFlow) := ⟨rfl, rfl, rfl, by decide +kernel, rfl, by decide +kernel, by decide +kernel⟩
theorem ok_flow {f : Addr} {fd : FuncData} (F : Fun K "_law_flow" "_law_flow" sFlow f fd) (T : FlowTxt mg fL fD K) : FnOk P w K mg base CX0 1 f fd ["script"] (spFlow K) := by
  refine F.ok scF (fun vs H Q E h => ?_) (fun cdv A outer s H vs Q E hr h => ?_)
  · obtain ⟨a, ns, rfl, _⟩ := h
    rfl
  · obtain ⟨a, ns, rfl, hS, go⟩ := h
    refine ⟨_, pss_cons (ps_set (i := 1) scF.nd rfl (Or.inl rfl) pe_int)
      (pss_cons (ps_for PassesOwn.never rfl (pi_list (pv 0)) (pg_name (i := 2) scF.nd rfl (Or.inl rfl))
        (pss_one (ps_set (i := 1) scF.nd rfl (Or.inl rfl) (pe_op op_mod (pe_callTy call_int1 (by rfl) T.int (by decide +kernel) (pa_cons (pe_op op_add (pe_op op_mul (pv 1) pe_int) (pe_callTy call_int1 (by rfl) T.int (by decide +kernel) (pa_cons (pv 2) pa_nil))) pa_nil)) pe_int))))
      (pss_one (ps_ret (pe_lst (pa_cons (pe_callTy call_list_of (by rfl) T.list (by decide +kernel) (pa_cons (pv 0) pa_nil)) (pa_cons pe_int (pa_cons pe_int (pa_cons pe_int (pa_cons (pv 1) (pa_cons pe_int pa_nil)))))))))), ?_⟩
    refine ⟨_, rfl, a, rfl, ⟨_, hS⟩, for_list (K := K) (a := a) (xs := ns.map V.int) (fun i σ H' => ∃ (m : Int) (v : Option V), σ = [some (.ref a), some (.int m), v] ∧ H' = H) ⟨1, none, rfl, rfl⟩ (fun i σ H' _ ⟨_, _, _, e⟩ => by rw [e]; exact hS) ?_ ?_⟩
    · rintro i y σ H' hi ⟨m, v, rfl, rfl⟩
      obtain ⟨u, rfl⟩ : ∃ u, y = V.int u := by
        rw [List.getElem?_map] at hi
        cases e : ns[i]? with
        | none =>
          rw [e] at hi
          cases hi
        | some u =>
          rw [e] at hi
          exact ⟨u, (Option.some.inj hi).symm⟩
      refine ⟨_, rfl, _, _, rfl, rfl, .inr (by decide), _, rfl, .inl ⟨_, rfl, _, _, rfl, rfl, .inl ⟨_, rfl, ?_⟩⟩⟩
      exact ⟨_, _, rfl, rfl, (by show (0 : Int) < 2147483647; decide), _, _, rfl, rfl⟩
    · rintro σ H' ⟨m, v, rfl, rfl⟩
      refine ⟨_, rfl, a, _, rfl, .inl hS, fun l hl => ?_⟩
      refine ⟨_, rfl, (by show 6 ≤ sizeLine; decide), fun p hp => ?_⟩
      have npl : l ≠ p := fun z => by rw [z] at hl; rw [z, upd_same] at hp; cases hp
      have hp0 : H' p = none := by rw [upd_ne npl.symm] at hp; exact hp
      refine go _ p (fun b o e => ?_) hp0 ⟨l, ns, 0, 0, 0, m, 0, upd_same, by rw [upd_ne npl]; exact upd_same, by decide⟩
      rw [upd_ne (ne_of_none e hp0), upd_ne (ne_of_none e hl)]
      exact e
end
end K0

set_option Elab.async false
set_option linter.all false
set_option maxRecDepth 100000
set_option maxHeartbeats 4000000
/-! The law's own comparison of what the program told with what is due. -/
namespace K0S
open PySem L2
abbrev sSame : Stmt := PySem.Challenge.pw_figurehold_k01_sums_of_polynomials.main.body.getD 22 (.Pass ⟨0, 0, 0, 0⟩)
/-- x and y hold the same, at most n deep -/
inductive Alike (H : Hp) : Nat → V → V → Prop
  | non (n : Nat) : Alike H n .non .non
  | bl (n : Nat) (b : Bool) : Alike H n (.bl b) (.bl b)
  | int (n : Nat) (i : Int) : Alike H n (.int i) (.int i)
  | str (n : Nat) (x : Str) : Alike H n (.str x) (.str x)
  | tup {n : Nat} {p q : Addr} {xs ys : List V} (hp : H p = some (.tup xs)) (hq : H q = some (.tup ys)) (l : xs.length = ys.length) (s : xs.length ≤ sizeLine) (h : ∀ (i : Nat) (x y : V), xs[i]? = some x → ys[i]? = some y → Alike H n x y) : Alike H (n + 1) (.ref p) (.ref q)
  | lst {n : Nat} {p q : Addr} {xs ys : List V} (hp : H p = some (.lst xs)) (hq : H q = some (.lst ys)) (l : xs.length = ys.length) (s : xs.length ≤ sizeLine) (h : ∀ (i : Nat) (x y : V), xs[i]? = some x → ys[i]? = some y → Alike H n x y) : Alike H (n + 1) (.ref p) (.ref q)
theorem Alike.up {H H' : Hp} (sm : Same H H') : ∀ {n : Nat} {x y : V}, Alike H n x y → Alike H' n x y := by
  intro n x y h
  induction h with
  | non n => exact .non n
  | bl n b => exact .bl n b
  | int n i => exact .int n i
  | str n x => exact .str n x
  | tup hp hq l s _ ih => exact .tup (sm _ _ hp) (sm _ _ hq) l s ih
  | lst hp hq l s _ ih => exact .lst (sm _ _ hp) (sm _ _ hq) l s ih
def spSame (n : Nat) : Sp := fun vs H Q _ => ∃ x y : V, vs = [x, y] ∧ Alike H n x y ∧ ∀ H', Same H H' → Q (.bl true) H'
structure SameTxt (K : PySem.W.Frag) (mg : Str → Option Value) (fS : Addr) : Prop where
  isinst : mg "isinstance" = none
  tuple : mg "tuple" = none
  list : mg "list" = none
  str : mg "str" = none
  bool : mg "bool" = none
  int : mg "int" = none
  len : mg "len" = none
  all : mg "all" = none
  range : mg "range" = none
  gS : mg "_law_same" = some (.ref fS)
  kS : PySem.W.keepIn K (.ref fS) = true
theorem ifY {b : Bool} {A B : Prop} (e : b = true) (h : A) : if b = true then A else B := by rw [if_pos e]; exact h
theorem ifN {b : Bool} {A B : Prop} (e : b = false) (h : B) : if b = true then A else B := by rw [e]; exact h
def tI (K : PySem.W.Frag) (i : Nat) (T : String) : TE := tCB (rIsi K) (tCons (tVar i) (tCons (tC (.ty T)) tNil))
theorem isi {K : PySem.W.Frag} {σ : St} {H : Hp} {i : Nat} {a T : String} {x : V} {b : Bool} {R : VK} (hs : σ[i]? = some (some x)) (ty : TyOf K H x (.type a)) (k : kitB a T = some b) (go : R (.bl b) H) : tI K i T σ H R :=
  ⟨x, hs, x, .ty T, .type a, .type T, b, rfl, .ty T, .base ty, kit_ty k, go⟩
section
variable {P : Program} {w : World} {K : PySem.W.Frag} {mg : Str → Option Value} {base : Heap} {fS : Addr}
theorem scS : FnScope ["actual", "due", "k"] ["actual", "due"] (defScope sSame) := ⟨rfl, rfl, rfl, by decide +kernel, rfl, by decide +kernel, by decide +kernel⟩

def rIs : R2 := fun x y H Q => y = .non ∧ Q (.bl (decide (x = .non))) H
def tTail (K : PySem.W.Frag) : TS := tSeq (tIfS (tTest (tOp rIs (tVar 1) (tC .non))) (tRet (tOp rIs (tVar 0) (tC .non))) tNext) (tSeq (tIfS (tTest (tI K 1 "str")) (tRet (tAndV (tI K 0 "str") (tOp rEq (tVar 0) (tVar 1)))) tNext) (tSeq (tIfS (tTest (tI K 1 "bool")) (tRet (tAndV (tI K 0 "bool") (tOp rEq (tVar 0) (tVar 1)))) tNext)
      (tRet (tAndV (tI K 0 "int") (tAndV (tNotV (tI K 0 "bool")) (tOp rEq (tVar 0) (tVar 1)))))))
/-- the four kinds without parts -/
theorem leaf {σ : St} {H : Hp} {D : Ends} {x y : V} {n : Nat} (al : Alike H n x y) (h0 : σ[0]? = some (some x)) (h1 : σ[1]? = some (some y)) (nt : ∀ p, y ≠ .ref p) (go : D.rt (.bl true) H) : tTail K D σ H := by
  cases al with
  | non n => exact ⟨_, h1, rfl, _, rfl, ifY (by decide) ⟨_, h0, rfl, go⟩⟩
  | str n z =>
    refine ⟨_, h1, rfl, _, rfl, ifN (by simp) ?_⟩
    refine isi h1 (.str z) (by decide +kernel) ⟨_, rfl, ifY rfl ?_⟩
    refine isi h0 (.str z) (by decide +kernel) ⟨true, rfl, ifY rfl ⟨_, h0, _, h1, rfl, ?_⟩⟩
    rw [decide_eq_true (rfl : V.str z = V.str z)]
    exact go
  | bl n z =>
    refine ⟨_, h1, rfl, _, rfl, ifN (by simp) ?_⟩
    refine isi h1 (.bl z) (by decide +kernel) ⟨_, rfl, ifN rfl ?_⟩
    refine isi h1 (.bl z) (by decide +kernel) ⟨_, rfl, ifY rfl ?_⟩
    refine isi h0 (.bl z) (by decide +kernel) ⟨true, rfl, ifY rfl ⟨_, h0, _, h1, rfl, ?_⟩⟩
    rw [decide_eq_true (rfl : V.bl z = V.bl z)]
    exact go
  | int n z =>
    refine ⟨_, h1, rfl, _, rfl, ifN (by simp) ?_⟩
    refine isi h1 (.int z) (by decide +kernel) ⟨_, rfl, ifN rfl ?_⟩
    refine isi h1 (.int z) (by decide +kernel) ⟨_, rfl, ifN rfl ?_⟩
    refine isi h0 (.int z) (by decide +kernel) ⟨true, rfl, ifY rfl ?_⟩
    refine isi h0 (.int z) (by decide +kernel) ⟨false, rfl, true, rfl, ifY rfl ⟨_, h0, _, h1, rfl, ?_⟩⟩
    rw [decide_eq_true (rfl : V.int z = V.int z)]
    exact go
  | tup _ _ _ _ _ => exact absurd rfl (nt _)
  | lst _ _ _ _ _ => exact absurd rfl (nt _)
theorem all_rep : ∀ m : Nat, (List.replicate m true).all id = true
  | 0 => rfl
  | m + 1 => by rw [List.replicate_succ, List.all_cons, all_rep m]; rfl
/-- which kinds have no parts -/
theorem Alike.ty {H : Hp} {n : Nat} {x y : V} (al : Alike H n x y) (nt : ∀ p, y ≠ .ref p) : ∃ a, TyOf K H y (.type a) ∧ kitB a "tuple" = some false ∧ kitB a "list" = some false := by
  cases al with
  | non n => exact ⟨_, .non, by decide +kernel, by decide +kernel⟩
  | str n z => exact ⟨_, .str z, by decide +kernel, by decide +kernel⟩
  | bl n z => exact ⟨_, .bl z, by decide +kernel, by decide +kernel⟩
  | int n z => exact ⟨_, .int z, by decide +kernel, by decide +kernel⟩
  | tup _ _ _ _ _ => exact absurd rfl (nt _)
  | lst _ _ _ _ _ => exact absurd rfl (nt _)
theorem ok_same0 {fd : FuncData} (F : Fun K "_law_same" "_law_same" sSame fS fd) (T : SameTxt K mg fS) : FnOk P w K mg base CX0 1 fS fd ["actual", "due"] (spSame 0) := by
  refine F.ok scS (fun vs H Q E h => ?_) (fun cdv A outer s H vs Q E hr h => ?_)
  · obtain ⟨x, y, rfl, _⟩ := h
    rfl
  · obtain ⟨x, y, rfl, al, go⟩ := h
    have nt : ∀ p, y ≠ .ref p := fun p z => by
      subst z
      cases al
    refine ⟨_, pss_cons (ps_if (PW.pt (pw_or (pt_val (pe_callB call_isi (by rfl) T.isinst (by decide +kernel) (pa_cons (pv 1) (pa_cons (pe_bltn (v := .ty "tuple") (u := .type "tuple") (by rfl) T.tuple (by decide +kernel) (by exact rfl)) pa_nil)))) (pw_or1 (pt_val (pe_callB call_isi (by rfl) T.isinst (by decide +kernel) (pa_cons (pv 1) (pa_cons (pe_bltn (v := .ty "list") (u := .type "list") (by rfl) T.list (by decide +kernel) (by exact rfl)) pa_nil))))))) pss_never pss_nil)
       (pss_cons (ps_if (pt_cmpR op_isN (pv 1) pe_non (nomark _)) (pss_one (ps_ret (pe_cmpR op_isN (pv 0) pe_non (nomark _)))) pss_nil)
      (pss_cons (ps_if (pt_val (pe_callB call_isi (by rfl) T.isinst (by decide +kernel) (pa_cons (pv 1) (pa_cons (pe_bltn (v := .ty "str") (u := .type "str") (by rfl) T.str (by decide +kernel) (by exact rfl)) pa_nil)))) (pss_one (ps_ret (pe_and (pe_callB call_isi (by rfl) T.isinst (by decide +kernel) (pa_cons (pv 0) (pa_cons (pe_bltn (v := .ty "str") (u := .type "str") (by rfl) T.str (by decide +kernel) (by exact rfl)) pa_nil))) (pe_one (pe_cmpR op_eq (pv 0) (pv 1) (nomark _)))))) pss_nil)
      (pss_cons (ps_if (pt_val (pe_callB call_isi (by rfl) T.isinst (by decide +kernel) (pa_cons (pv 1) (pa_cons (pe_bltn (v := .ty "bool") (u := .type "bool") (by rfl) T.bool (by decide +kernel) (by exact rfl)) pa_nil)))) (pss_one (ps_ret (pe_and (pe_callB call_isi (by rfl) T.isinst (by decide +kernel) (pa_cons (pv 0) (pa_cons (pe_bltn (v := .ty "bool") (u := .type "bool") (by rfl) T.bool (by decide +kernel) (by exact rfl)) pa_nil))) (pe_one (pe_cmpR op_eq (pv 0) (pv 1) (nomark _)))))) pss_nil)
      (pss_one (ps_ret (pe_and (pe_callB call_isi (by rfl) T.isinst (by decide +kernel) (pa_cons (pv 0) (pa_cons (pe_bltn (v := .ty "int") (u := .type "int") (by rfl) T.int (by decide +kernel) (by exact rfl)) pa_nil))) (pe_and (pe_not (pe_callB call_isi (by rfl) T.isinst (by decide +kernel) (pa_cons (pv 0) (pa_cons (pe_bltn (v := .ty "bool") (u := .type "bool") (by rfl) T.bool (by decide +kernel) (by exact rfl)) pa_nil)))) (pe_one (pe_cmpR op_eq (pv 0) (pv 1) (nomark _)))))))))), ?_⟩
    obtain ⟨a, ty, k1, k2⟩ := al.ty (K := K) nt
    refine isi (K := K) rfl ty k1 ⟨_, rfl, ifN rfl ?_⟩
    refine isi (K := K) rfl ty k2 ⟨_, rfl, ifN rfl ?_⟩
    show tTail K _ _ H
    exact leaf (K := K) al rfl rfl nt (go H fun _ _ q => q)
theorem ok_sameS {n k : Nat} {fd : FuncData} (F : Fun K "_law_same" "_law_same" sSame fS fd) (bS : Binds K fd ["actual", "due"] []) (T : SameTxt K mg fS) (G : FnOk P w K mg base CX0 k fS fd ["actual", "due"] (spSame n)) : FnOk P w K mg base CX0 (k + 1) fS fd ["actual", "due"] (spSame (n + 1)) := by
  refine F.ok scS (fun vs H Q E h => ?_) (fun cdv A outer s H vs Q E hr h => ?_)
  · obtain ⟨x, y, rfl, _⟩ := h
    rfl
  · obtain ⟨x, y, rfl, al, go⟩ := h
    refine ⟨_, pss_cons (ps_if (PW.pt (pw_or (pt_val (pe_callB call_isi (by rfl) T.isinst (by decide +kernel) (pa_cons (pv 1) (pa_cons (pe_bltn (v := .ty "tuple") (u := .type "tuple") (by rfl) T.tuple (by decide +kernel) (by exact rfl)) pa_nil)))) (pw_or1 (pt_val (pe_callB call_isi (by rfl) T.isinst (by decide +kernel) (pa_cons (pv 1) (pa_cons (pe_bltn (v := .ty "list") (u := .type "list") (by rfl) T.list (by decide +kernel) (by exact rfl)) pa_nil))))))) (pss_cons (ps_if (PW.pt (pw_or (pt_cmpR op_ne (pe_callB call_isi (by rfl) T.isinst (by decide +kernel) (pa_cons (pv 1) (pa_cons (pe_bltn (v := .ty "tuple") (u := .type "tuple") (by rfl) T.tuple (by decide +kernel) (by exact rfl)) pa_nil))) (pe_callB call_isi (by rfl) T.isinst (by decide +kernel) (pa_cons (pv 0) (pa_cons (pe_bltn (v := .ty "tuple") (u := .type "tuple") (by rfl) T.tuple (by decide +kernel) (by exact rfl)) pa_nil))) (nomark _)) (pw_or1 (pt_cmpR op_ne (pe_callB call_isi (by rfl) T.isinst (by decide +kernel) (pa_cons (pv 1) (pa_cons (pe_bltn (v := .ty "list") (u := .type "list") (by rfl) T.list (by decide +kernel) (by exact rfl)) pa_nil))) (pe_callB call_isi (by rfl) T.isinst (by decide +kernel) (pa_cons (pv 0) (pa_cons (pe_bltn (v := .ty "list") (u := .type "list") (by rfl) T.list (by decide +kernel) (by exact rfl)) pa_nil))) (nomark _))))) (pss_one (ps_ret pe_bl)) pss_nil)
        (pss_one (ps_ret (pe_and (pe_cmpR op_eq (pe_callB call_len_seq (by rfl) T.len PySem.boot_len (pa_cons (pv 0) pa_nil)) (pe_callB call_len_seq (by rfl) T.len PySem.boot_len (pa_cons (pv 1) pa_nil)) (nomark _))
          (pe_one (pe_callB (cr_all rfl) (by rfl) T.all (by decide +kernel) (pa_cons (pe_lc (own := [("k", 2)]) (g := gName 2) rfl scS.nd (pi_range1 (by rfl) T.range (pa_cons (pe_callB call_len_seq (by rfl) T.len PySem.boot_len (pa_cons (pv 1) pa_nil)) pa_nil))
            (blkOk_by (own := [("k", 2)]) (N := ["actual", "due", "k"]) (sc := defScope sSame) (by decide +kernel)) (fun _ _ _ _ _ => pg_name (i := 2) scS.nd rfl (Or.inl rfl)) (fun _ _ _ _ _ => pts_nil)
            (fun _ _ _ _ _ => pe_call G hr (by rfl) T.gS T.kS bS .nil pass0 (pa_cons (pe_ix (show IxR _ (rIx K) from ix_seq) (pv 0) (pv 2) (fun _ _ => rfl)) (pa_cons (pe_ix (show IxR _ (rIx K) from ix_seq) (pv 1) (pv 2) (fun _ _ => rfl)) pa_nil)))) pa_nil))))))) pss_nil)
       (pss_cons (ps_if (pt_cmpR op_isN (pv 1) pe_non (nomark _)) (pss_one (ps_ret (pe_cmpR op_isN (pv 0) pe_non (nomark _)))) pss_nil)
      (pss_cons (ps_if (pt_val (pe_callB call_isi (by rfl) T.isinst (by decide +kernel) (pa_cons (pv 1) (pa_cons (pe_bltn (v := .ty "str") (u := .type "str") (by rfl) T.str (by decide +kernel) (by exact rfl)) pa_nil)))) (pss_one (ps_ret (pe_and (pe_callB call_isi (by rfl) T.isinst (by decide +kernel) (pa_cons (pv 0) (pa_cons (pe_bltn (v := .ty "str") (u := .type "str") (by rfl) T.str (by decide +kernel) (by exact rfl)) pa_nil))) (pe_one (pe_cmpR op_eq (pv 0) (pv 1) (nomark _)))))) pss_nil)
      (pss_cons (ps_if (pt_val (pe_callB call_isi (by rfl) T.isinst (by decide +kernel) (pa_cons (pv 1) (pa_cons (pe_bltn (v := .ty "bool") (u := .type "bool") (by rfl) T.bool (by decide +kernel) (by exact rfl)) pa_nil)))) (pss_one (ps_ret (pe_and (pe_callB call_isi (by rfl) T.isinst (by decide +kernel) (pa_cons (pv 0) (pa_cons (pe_bltn (v := .ty "bool") (u := .type "bool") (by rfl) T.bool (by decide +kernel) (by exact rfl)) pa_nil))) (pe_one (pe_cmpR op_eq (pv 0) (pv 1) (nomark _)))))) pss_nil)
      (pss_one (ps_ret (pe_and (pe_callB call_isi (by rfl) T.isinst (by decide +kernel) (pa_cons (pv 0) (pa_cons (pe_bltn (v := .ty "int") (u := .type "int") (by rfl) T.int (by decide +kernel) (by exact rfl)) pa_nil))) (pe_and (pe_not (pe_callB call_isi (by rfl) T.isinst (by decide +kernel) (pa_cons (pv 0) (pa_cons (pe_bltn (v := .ty "bool") (u := .type "bool") (by rfl) T.bool (by decide +kernel) (by exact rfl)) pa_nil)))) (pe_one (pe_cmpR op_eq (pv 0) (pv 1) (nomark _)))))))))), ?_⟩
    cases al with
    | tup hp hq l s h =>
      rename_i p q xs ys
      refine isi (K := K) (b := true) rfl (.tup hq) (by decide +kernel) ⟨_, rfl, ifY rfl ?_⟩
      refine isi (K := K) (b := true) rfl (.tup hq) (by decide +kernel) (isi (K := K) (b := true) rfl (.tup hp) (by decide +kernel) ⟨rfl, _, rfl, ifN (by decide) ?_⟩)
      refine isi (K := K) (b := false) rfl (.tup hq) (by decide +kernel) (isi (K := K) (b := false) rfl (.tup hp) (by decide +kernel) ⟨rfl, _, rfl, ifN (by decide) ?_⟩)
      refine ⟨_, rfl, p, xs, rfl, .inr (SqT.of hp), _, rfl, q, ys, rfl, .inr (SqT.of hq), rfl, true, by rw [l]; simp, ifY rfl ?_⟩
      refine ⟨_, rfl, q, ys, rfl, .inr (SqT.of hq), (ys.length : Int), rfl, by omega, by rw [sizeLine_eq] at s; omega, fun D hD => ?_⟩
      refine lc_range (lo := 0) (n := ys.length) (fun i G => Same H G ∧ G D = some (.lst (List.replicate i (V.bl true)))) ⟨fun b o e => (upd_ne (ne_of_none e hD)).trans e, upd_same⟩ (fun i G hi ⟨sm, hd⟩ => ⟨rfl, ?_⟩) (fun G ⟨sm, hd⟩ => ?_)
      · have hx : xs[i]? = some (xs[i]'(by omega)) := by simp
        have hy : ys[i]? = some ys[i] := by simp
        have len : i < sizeLine := by omega
        refine ⟨_, rfl, _, rfl, .inr (.inl ⟨p, xs, _, _, rfl, rfl, SqT.of (sm _ _ hp), at_of (Int.zero_add _) hx, _, rfl, _, rfl, .inr (.inl ⟨q, ys, _, _, rfl, rfl, SqT.of (sm _ _ hq), at_of (Int.zero_add _) hy, _, _, rfl, (h i _ _ hx hy).up sm, fun G2 sm2 => ⟨_, sm2 _ _ hd, by rw [List.length_replicate]; exact len, fun b o e => (upd_ne (ne_of_none e hD)).trans (sm2 _ _ (sm _ _ e)), ?_⟩⟩)⟩)⟩
        rw [upd_same, List.replicate_succ']
      · refine ⟨D, List.replicate ys.length true, rfl, SqL.of (by rw [List.map_replicate]; exact hd), ?_⟩
        rw [all_rep]
        exact go G sm
    | lst hp hq l s h =>
      rename_i p q xs ys
      refine isi (K := K) (b := false) rfl (.lst hq) (by decide +kernel) ⟨_, rfl, ifN rfl ?_⟩
      refine isi (K := K) (b := true) rfl (.lst hq) (by decide +kernel) ⟨_, rfl, ifY rfl ?_⟩
      refine isi (K := K) (b := false) rfl (.lst hq) (by decide +kernel) (isi (K := K) (b := false) rfl (.lst hp) (by decide +kernel) ⟨rfl, _, rfl, ifN (by decide) ?_⟩)
      refine isi (K := K) (b := true) rfl (.lst hq) (by decide +kernel) (isi (K := K) (b := true) rfl (.lst hp) (by decide +kernel) ⟨rfl, _, rfl, ifN (by decide) ?_⟩)
      refine ⟨_, rfl, p, xs, rfl, .inl (SqL.of hp), _, rfl, q, ys, rfl, .inl (SqL.of hq), rfl, true, by rw [l]; simp, ifY rfl ?_⟩
      refine ⟨_, rfl, q, ys, rfl, .inl (SqL.of hq), (ys.length : Int), rfl, by omega, by rw [sizeLine_eq] at s; omega, fun D hD => ?_⟩
      refine lc_range (lo := 0) (n := ys.length) (fun i G => Same H G ∧ G D = some (.lst (List.replicate i (V.bl true)))) ⟨fun b o e => (upd_ne (ne_of_none e hD)).trans e, upd_same⟩ (fun i G hi ⟨sm, hd⟩ => ⟨rfl, ?_⟩) (fun G ⟨sm, hd⟩ => ?_)
      · have hx : xs[i]? = some (xs[i]'(by omega)) := by simp
        have hy : ys[i]? = some ys[i] := by simp
        have len : i < sizeLine := by omega
        refine ⟨_, rfl, _, rfl, .inl (⟨p, xs, _, _, rfl, rfl, SqL.of (sm _ _ hp), at_of (Int.zero_add _) hx, _, rfl, _, rfl, .inl (⟨q, ys, _, _, rfl, rfl, SqL.of (sm _ _ hq), at_of (Int.zero_add _) hy, _, _, rfl, (h i _ _ hx hy).up sm, fun G2 sm2 => ⟨_, sm2 _ _ hd, by rw [List.length_replicate]; exact len, fun b o e => (upd_ne (ne_of_none e hD)).trans (sm2 _ _ (sm _ _ e)), ?_⟩⟩)⟩)⟩
        rw [upd_same, List.replicate_succ']
      · refine ⟨D, List.replicate ys.length true, rfl, SqL.of (by rw [List.map_replicate]; exact hd), ?_⟩
        rw [all_rep]
        exact go G sm
    | non => 
      obtain ⟨a, ty, k1, k2⟩ := (Alike.non (n + 1)).ty (K := K) (H := H) (fun p z => by cases z)
      refine isi (K := K) rfl ty k1 ⟨_, rfl, ifN rfl ?_⟩
      refine isi (K := K) rfl ty k2 ⟨_, rfl, ifN rfl ?_⟩
      show tTail K _ _ H
      exact leaf (K := K) (H := H) (Alike.non (n + 1)) rfl rfl (fun p z => by cases z) (go H fun _ _ q => q)
    | bl _ b => 
      obtain ⟨a, ty, k1, k2⟩ := (Alike.bl (n + 1) b).ty (K := K) (H := H) (fun p z => by cases z)
      refine isi (K := K) rfl ty k1 ⟨_, rfl, ifN rfl ?_⟩
      refine isi (K := K) rfl ty k2 ⟨_, rfl, ifN rfl ?_⟩
      show tTail K _ _ H
      exact leaf (K := K) (H := H) (Alike.bl (n + 1) b) rfl rfl (fun p z => by cases z) (go H fun _ _ q => q)
    | int _ i => 
      obtain ⟨a, ty, k1, k2⟩ := (Alike.int (n + 1) i).ty (K := K) (H := H) (fun p z => by cases z)
      refine isi (K := K) rfl ty k1 ⟨_, rfl, ifN rfl ?_⟩
      refine isi (K := K) rfl ty k2 ⟨_, rfl, ifN rfl ?_⟩
      show tTail K _ _ H
      exact leaf (K := K) (H := H) (Alike.int (n + 1) i) rfl rfl (fun p z => by cases z) (go H fun _ _ q => q)
    | str _ z => 
      obtain ⟨a, ty, k1, k2⟩ := (Alike.str (n + 1) z).ty (K := K) (H := H) (fun p z => by cases z)
      refine isi (K := K) rfl ty k1 ⟨_, rfl, ifN rfl ?_⟩
      refine isi (K := K) rfl ty k2 ⟨_, rfl, ifN rfl ?_⟩
      show tTail K _ _ H
      exact leaf (K := K) (H := H) (Alike.str (n + 1) z) rfl rfl (fun p z => by cases z) (go H fun _ _ q => q)
end
end K0S

set_option Elab.async false
set_option linter.all false
set_option maxRecDepth 100000
set_option maxHeartbeats 4000000
/-! The law's own rising rows. -/
namespace K1P
open PySem L2 K1D
open PySem.W (alike dataLt)
abbrev sRising : Stmt := top 24
theorem datas_map : ∀ ks : List NestedKey, NestedKey.datas ks = ks.map NestedKey.data
  | [] => rfl
  | k :: ks => by
    show k.data :: NestedKey.datas ks = _
    rw [datas_map ks]
    rfl
theorem shaped_key {k : NestedKey} (h : k.depth ≤ 8) (l : k.data.canLay0 = true) : SeqAt.shaped k.data = true := by
  show (k.data.canLay0 && decide (k.data.depth ≤ 64)) = true
  rw [l, key_depth, Bool.true_and]
  exact decide_eq_true (by omega)
theorem lay_keys : ∀ {ks : List NestedKey}, (∀ k ∈ ks, k.data.canLay0 = true) → PyData.canLayAll0 (NestedKey.datas ks) = true
  | [], _ => by simp [NestedKey.datas, PyData.canLayAll0]
  | k :: ks, h => by
    simp only [NestedKey.datas, PyData.canLayAll0, h k (List.mem_cons_self ..), lay_keys fun x hx => h x (List.mem_cons_of_mem _ hx), Bool.and_self]
theorem depths_le : ∀ {ks : List NestedKey}, (∀ k ∈ ks, k.depth ≤ 8) → NestedKey.depthAll ks ≤ 8
  | [], _ => Nat.zero_le _
  | k :: ks, h => by
    show max k.depth (NestedKey.depthAll ks) ≤ 8
    exact Nat.max_le.mpr ⟨h k (List.mem_cons_self ..), depths_le fun x hx => h x (List.mem_cons_of_mem _ hx)⟩
theorem shaped_keys {ks : List NestedKey} (h : ∀ k ∈ ks, k.depth ≤ 8) (l : ∀ k ∈ ks, k.data.canLay0 = true) : SeqAt.shaped (.list (NestedKey.datas ks)) = true := by
  show (PyData.canLay0 (.list (NestedKey.datas ks)) && decide (PyData.depth (.list (NestedKey.datas ks)) ≤ 64)) = true
  simp only [PyData.canLay0, PyData.depth, lay_keys l, keys_depth, Bool.true_and]
  have := depths_le h
  exact decide_eq_true (by omega)
/-- a < b of keys of one kind -/
def rLtN (K : PySem.W.Frag) : R2 := fun x y H Q => ∃ k k', KeyV K H k x ∧ KeyV K H k' y ∧ alike k.data k'.data = true ∧ k ≠ .none ∧ k.depth ≤ 8 ∧ Q (.bl (ltK k k')) H
theorem op_ltN {X : Cx} (hu : X.A.units + 64 < cLine) : OpR X (compareOp .Lt) (rLtN X.K) := by
  intro pn s σ H x y v u Q I rx ry h
  obtain ⟨k, k', hk, hk', al, nn, dp, q⟩ := h
  have nd : k.data ≠ .none := fun z => by
    cases k with
    | none => exact nn rfl
    | num _ => cases z
    | text _ => cases z
    | tup _ => cases z
  have room : X.A.units + min k.data.depth k'.data.depth < cLine := by
    rw [key_depth, key_depth]
    omega
  exact PySem.W.rcLt_alike k.data k'.data X.A s v u [] [] (hk.reads I _ _ _ rx) (hk'.reads I _ _ _ ry) al nd room X.prog X.w X.xe _ ⟨.bl _, H, I, rfl, q⟩
/-- one key more -/
def riseOne (fs : List NestedKey) (k : NestedKey) : List NestedKey := if fs.any (fun z => PyData.eqv z.data k.data) then fs else fs.take (fs.filter fun o => ltK o k).length ++ [k] ++ fs.drop (fs.filter fun o => ltK o k).length
def riseK (ks : List NestedKey) : List NestedKey := ks.foldl riseOne []
theorem len_riseOne (fs : List NestedKey) (k : NestedKey) : (riseOne fs k).length ≤ fs.length + 1 := by
  unfold riseOne
  split
  · exact Nat.le_succ _
  · rw [List.length_append, List.length_append, List.length_take, List.length_drop, List.length_singleton]
    omega
theorem mem_riseOne {fs : List NestedKey} {k j : NestedKey} (h : j ∈ riseOne fs k) : j ∈ fs ∨ j = k := by
  unfold riseOne at h
  split at h
  · exact .inl h
  · rcases List.mem_append.mp h with h | h
    · rcases List.mem_append.mp h with h | h
      · exact .inl (List.mem_of_mem_take h)
      · exact .inr (List.mem_singleton.mp h)
    · exact .inl (List.mem_of_mem_drop h)
theorem riseK_take {ks : List NestedKey} {i : Nat} {k : NestedKey} (h : ks[i]? = some k) : riseK (ks.take (i + 1)) = riseOne (riseK (ks.take i)) k := by
  have lt : i < ks.length := (List.getElem?_eq_some_iff.mp h).1
  unfold riseK
  rw [List.take_succ_eq_append_getElem lt, List.foldl_append, (List.getElem?_eq_some_iff.mp h).2]
  rfl
theorem mem_foldl_rise : ∀ {ks fs : List NestedKey} {j : NestedKey}, j ∈ ks.foldl riseOne fs → j ∈ fs ∨ j ∈ ks
  | [], _, _, h => .inl h
  | k :: ks, fs, j, h => by
    rcases mem_foldl_rise (ks := ks) (fs := riseOne fs k) h with h | h
    · rcases mem_riseOne h with h | h
      · exact .inl h
      · exact .inr (by rw [h]; exact List.mem_cons_self ..)
    · exact .inr (List.mem_cons_of_mem _ h)
theorem mem_riseK {ks : List NestedKey} {j : NestedKey} (h : j ∈ riseK ks) : j ∈ ks := (mem_foldl_rise h).elim (fun z => nomatch z) id
theorem len_foldl_rise : ∀ (ks fs : List NestedKey), (ks.foldl riseOne fs).length ≤ fs.length + ks.length
  | [], fs => Nat.le_refl _
  | k :: ks, fs => by
    have h1 := len_foldl_rise ks (riseOne fs k)
    have h2 := len_riseOne fs k
    show (ks.foldl riseOne (riseOne fs k)).length ≤ _
    rw [List.length_cons]
    omega
theorem len_riseK (ks : List NestedKey) : (riseK ks).length ≤ ks.length := by
  have := len_foldl_rise ks []
  rw [List.length_nil, Nat.zero_add] at this
  exact this
def AllAl (ks : List NestedKey) : Prop := (∀ a ∈ ks, ∀ b ∈ ks, alike a.data b.data = true) ∧ ∀ a ∈ ks, a ≠ .none ∧ a.depth ≤ 8 ∧ a.data.canLay0 = true
def spRise (K : PySem.W.Frag) : Sp := fun vs H Q _ => ∃ (l : Addr) (xs : List V) (ks : List NestedKey), vs = [.ref l] ∧ H l = some (.lst xs) ∧ KeyVs K H ks xs ∧ AllAl ks ∧ ks.length < sizeLine ∧
  ∀ (p : Addr) (H' : Hp) (zs : List V), Same H H' → H p = none → H' p = some (.lst zs) → KeyVs K H' (riseK ks) zs → Q (.ref p) H'
theorem keyVs_dpAll {K : PySem.W.Frag} {H : Hp} {p : Addr} {ks : List NestedKey} {xs : List V} (h : H p = some (.lst xs)) (g : KeyVs K H ks xs) : Dp K H (.ref p) (.list (NestedKey.datas ks)) := .lst (SqL.of h) (KeyVs.dp ks _ g)
theorem keyVs_take {K : PySem.W.Frag} {H : Hp} : ∀ (n : Nat) {ks : List NestedKey} {xs : List V}, KeyVs K H ks xs → KeyVs K H (ks.take n) (xs.take n)
  | 0, _, _, _ => .nil
  | _ + 1, [], _, h => by cases h; exact .nil
  | n + 1, k :: ks, _, h => by
    cases h with
    | cons h1 h2 => exact .cons h1 (keyVs_take n h2)
theorem keyVs_drop {K : PySem.W.Frag} {H : Hp} : ∀ (n : Nat) {ks : List NestedKey} {xs : List V}, KeyVs K H ks xs → KeyVs K H (ks.drop n) (xs.drop n)
  | 0, _, _, h => h
  | _ + 1, [], _, h => by cases h; exact .nil
  | n + 1, k :: ks, _, h => by
    cases h with
    | cons h1 h2 => exact keyVs_drop n h2
theorem keyVs_app {K : PySem.W.Frag} {H : Hp} : ∀ {ks ls : List NestedKey} {xs ys : List V}, KeyVs K H ks xs → KeyVs K H ls ys → KeyVs K H (ks ++ ls) (xs ++ ys)
  | [], _, _, _, h, g => by cases h; exact g
  | _ :: _, _, _, _, h, g => by
    cases h with
    | cons h1 h2 => exact .cons h1 (keyVs_app h2 g)
section
variable {P : Program} {w : World} {K : PySem.W.Frag} {mg : Str → Option Value} {base : Heap}
theorem scRising : FnScope ["things", "found", "thing", "other"] ["things"] (defScope sRising) := ⟨rfl, rfl, rfl, by decide +kernel, rfl, by decide +kernel, by decide +kernel⟩
theorem ok_rising {f : Addr} {fd : FuncData} (F : Fun K "_law_rising" "_law_rising" sRising f fd) (len : mg "len" = none) : FnOk P w K mg base CX0 1 f fd ["things"] (spRise K) := by
  refine F.ok scRising (fun vs H Q E h => ?_) (fun cdv A outer s H vs Q E hr h => ?_)
  · obtain ⟨l, xs, ks, rfl, _⟩ := h
    rfl
  · obtain ⟨l, xs, ks, rfl, hl, hk, al, lt, go⟩ := h
    have hu65 : (cxOf CX0 P w K mg base ["things", "found", "thing", "other"] "_law_rising" (defScope sRising) f cdv A outer s H E).nox.A.units + 65 < cLine := by
      have := hr.un
      show (A.deeper _).units + 65 < cLine
      omega
    refine ⟨_, pss_cons (ps_set (i := 1) scRising.nd rfl (Or.inl rfl) (pe_lst pa_nil))
      (pss_cons (ps_for PassesOwn.never rfl (pi_list (pv 0)) (pg_name (i := 2) scRising.nd rfl (Or.inr rfl))
        (pss_one (ps_if (pt_cmpR (op_notInD hu65) (pv 2) (pv 1) (by rfl)) (pss_one (ps_expr (pe_bm PySem.F.plainAttrs_list PySem.F.slot_list_insert PySem.F.type_list_insert mt_insert (pv 1)
          (pa_cons (pe_callB call_len_seq (by rfl) len PySem.boot_len (pa_cons (pe_lc (own := [("other", 3)]) (g := gName 3) (tt := tTest (tOp (rLtN K) (tVar 3) (tVar 2))) (te := tVar 3) rfl scRising.nd (pi_list (pv 1))
            (blkOk_by (own := [("other", 3)]) (N := ["things", "found", "thing", "other"]) (sc := defScope sRising) (by decide +kernel)) (fun _ _ _ _ _ => pg_name (i := 3) scRising.nd rfl (Or.inl rfl))
            (fun _ _ _ _ _ => pts_one (pt_cmpR (op_ltN hr.units) (pv 3) (pv 2) (nomark _))) (fun _ _ _ _ _ => pv 3)) pa_nil)) (pa_cons (pv 2) pa_nil))))) pss_nil)))
      (pss_one (ps_ret (pv 1)))), ?_⟩
    have lx := keyVs_len hk
    refine ⟨by show 0 ≤ sizeLine; exact Nat.zero_le _, fun p np => ?_⟩
    have pl : p ≠ l := fun z => by rw [z, hl] at np; cases np
    refine ⟨_, rfl, l, rfl, ⟨xs, SqL.of ((upd_ne (Ne.symm pl)).trans hl)⟩, for_list (K := K) (a := l) (xs := xs) (fun (i : Nat) (σ : L2.St) (F : Hp) => ∃ u2 u3 : Option V, σ = [some (.ref l), some (.ref p), u2, u3] ∧ Same H F ∧ ∃ zs : List V, F p = some (.lst zs) ∧ KeyVs K F (riseK (ks.take i)) zs)
      ⟨none, none, rfl, fun a o e => (upd_ne (ne_of_none e np)).trans e, [], upd_same, .nil⟩ (fun i σ F _ ⟨_, _, _, sm, _⟩ => SqL.of (sm _ _ hl)) (fun i x σ F hx ⟨u2, u3, hσ, sm, zs, h1, h2⟩ => ?_) (fun σ F ⟨u2, u3, hσ, sm, zs, h1, h2⟩ => ?_)⟩
    · subst hσ
      obtain ⟨k, hki, hkx⟩ := keyVs_at hk hx
      have kx : KeyV K F k x := hkx.up (same_tups sm) _ _
      have km := List.mem_of_getElem? hki
      obtain ⟨k1, k2, k3⟩ := al.2 k km
      have fm : ∀ z ∈ riseK (ks.take i), z ∈ ks := fun z hz => List.mem_of_mem_take (mem_riseK hz)
      have lz : zs.length = (riseK (ks.take i)).length := keyVs_len h2
      have lr : (riseK (ks.take i)).length < sizeLine := by
        have q1 := len_riseK (ks.take i)
        rw [List.length_take] at q1
        omega
      have next := riseK_take hki
      refine ⟨_, rfl, _, rfl, k.data, NestedKey.datas (riseK (ks.take i)), kx.dp, keyVs_dpAll h1 h2, shaped_key k2 k3, shaped_keys (fun z hz => (al.2 z (fm z hz)).2.1) (fun z hz => (al.2 z (fm z hz)).2.2), ?_⟩
      have ea : (NestedKey.datas (riseK (ks.take i))).any (fun z => PyData.eqv z k.data) = (riseK (ks.take i)).any (fun z => PyData.eqv z.data k.data) := by
        rw [datas_map, List.any_map]
        rfl
      rw [ea]
      refine ⟨_, rfl, ?_⟩
      by_cases hin : (riseK (ks.take i)).any (fun z => PyData.eqv z.data k.data) = true
      · refine ifN (by rw [hin]; rfl) ⟨_, _, rfl, sm, zs, h1, ?_⟩
        rw [next]
        unfold riseOne
        rw [if_pos hin]
        exact h2
      · have hin' : (riseK (ks.take i)).any (fun z => PyData.eqv z.data k.data) = false := by
          cases q : (riseK (ks.take i)).any (fun z => PyData.eqv z.data k.data) with
          | false => rfl
          | true => exact absurd q hin
        refine ifY (by rw [hin']; rfl) ?_
        refine ⟨_, rfl, .inl ⟨rfl, _, SqL.of h1⟩, _, rfl, p, rfl, ⟨_, SqL.of h1⟩, fun L nL => ?_⟩
        refine lc_list (K := K) (a := p) (xs := zs) (fun (j : Nat) (G : Hp) => Same F G ∧ ∃ ys : List V, G L = some (.lst ys) ∧ ys.length = (((riseK (ks.take i)).take j).filter fun o => ltK o k).length) ⟨fun a o e => (upd_ne (ne_of_none e nL)).trans e, [], upd_same, rfl⟩
          (fun j G _ ⟨sg, _⟩ => SqL.of (sg _ _ h1)) (fun j v G hv ⟨sg, ys, g1, g2⟩ => ?_) (fun G ⟨sg, ys, g1, g2⟩ => ?_)
        · obtain ⟨o, ho, hov⟩ := keyVs_at h2 hv
          have om := fm o (List.mem_of_getElem? ho)
          obtain ⟨o1, o2, o3⟩ := al.2 o om
          have lt' : j < (riseK (ks.take i)).length := (List.getElem?_eq_some_iff.mp ho).1
          have et : (riseK (ks.take i)).take (j + 1) = (riseK (ks.take i)).take j ++ [o] := by
            rw [List.take_succ_eq_append_getElem lt', (List.getElem?_eq_some_iff.mp ho).2]
          refine ⟨rfl, _, rfl, _, rfl, o, k, hov.up (same_tups sg) _ _, kx.up (same_tups sg) _ _, al.1 o om k km, o1, o2, _, rfl, ?_⟩
          have yl : ys.length < sizeLine := by
            have q1 := List.length_filter_le (fun o => ltK o k) ((riseK (ks.take i)).take j)
            rw [List.length_take] at q1
            omega
          cases q : ltK o k with
          | true =>
            refine ifY rfl ⟨_, rfl, ys, g1, yl, fun a o' e => ?_, ys ++ [v], upd_same, ?_⟩
            · have ne : a ≠ L := fun z => by rw [z, nL] at e; cases e
              exact (upd_ne ne).trans (sg a o' e)
            · rw [et, List.filter_append, List.length_append, List.length_append, g2, List.filter_cons, q]
              rfl
          | false =>
            refine ifN rfl ⟨sg, ys, g1, ?_⟩
            rw [et, List.filter_append, List.length_append, g2, List.filter_cons, q]
            rfl
        · rw [lz, List.take_length] at g2
          have q1 := List.length_filter_le (fun o => ltK o k) (riseK (ks.take i))
          refine ⟨L, ys, rfl, .inl (SqL.of g1), _, rfl, p, zs, (ys.length : Int), x, rfl, rfl, sg _ _ h1, by omega, by omega, by rw [sizeLine_eq] at lr; omega, ?_⟩
          have tp : Tups K G (upd G p (.lst (zs.take ys.length ++ [x] ++ zs.drop ys.length))) := Tups.put fun xs' e => by
            rcases e with e | ⟨o, e⟩
            · rw [sg _ _ h1] at e; cases e
            · rw [sg _ _ h1] at e; cases e
          refine ⟨_, _, rfl, fun a o e => ?_, _, upd_same, ?_⟩
          · have ne : a ≠ p := fun z => by rw [z, np] at e; cases e
            exact (upd_ne ne).trans (sg a o (sm a o e))
          · rw [next]
            unfold riseOne
            rw [if_neg hin, ← g2]
            refine KeyVs.up tp _ _ ?_
            have h2' := KeyVs.up (same_tups sg) _ _ h2
            have e2 : ((ys.length : Nat) : Int).toNat = ys.length := Int.toNat_natCast _
            rw [e2]
            exact keyVs_app (keyVs_app (keyVs_take _ h2') (.cons (kx.up (same_tups sg) _ _) .nil)) (keyVs_drop _ h2')
    · subst hσ
      rw [lx, List.take_length] at h2
      exact ⟨_, rfl, go p F zs sm np h1 h2⟩
end
end K1P

set_option Elab.async false
set_option linter.all false
set_option maxRecDepth 100000
set_option maxHeartbeats 4000000
/-! Tables from monomials to ints: rows, values, sums. -/
namespace K1P
open PySem L2 K1D
theorem split_lt {k : NestedKey} : ∀ {fs : List NestedKey}, fs.Pairwise (fun a b => ltK a b = true) →
    (∀ x ∈ fs.take (fs.filter fun o => ltK o k).length, ltK x k = true) ∧ ∀ x ∈ fs.drop (fs.filter fun o => ltK o k).length, ltK x k = false
  | [], _ => ⟨fun x h => by simp at h, fun x h => by simp at h⟩
  | a :: r, h => by
    have p := List.pairwise_cons.mp h
    rw [List.filter_cons]
    cases q : ltK a k with
    | true =>
      rw [if_pos rfl, List.length_cons, List.take_succ_cons, List.drop_succ_cons]
      have ih := split_lt (k := k) p.2
      refine ⟨fun x hx => ?_, ih.2⟩
      rcases List.mem_cons.mp hx with e | e
      · rw [e]; exact q
      · exact ih.1 x e
    | false =>
      rw [if_neg (by simp)]
      have none' : r.filter (fun o => ltK o k) = [] := by
        rw [List.filter_eq_nil_iff]
        intro x hx z
        have := ltK_trans (p.1 x hx) z
        rw [q] at this
        cases this
      rw [none']
      refine ⟨fun x hx => by simp at hx, fun x hx => ?_⟩
      rcases List.mem_cons.mp hx with e | e
      · rw [e]; exact q
      · have := List.filter_eq_nil_iff.mp none' x e
        simpa using this
theorem riseOne_ok {fs : List NestedKey} {k : NestedKey} (mf : ∀ x ∈ fs, IsMon x) (mk : IsMon k) (h : fs.Pairwise fun a b => ltK a b = true) :
    (riseOne fs k).Pairwise (fun a b => ltK a b = true) ∧ ∀ j, j ∈ riseOne fs k ↔ j ∈ fs ∨ j = k := by
  unfold riseOne
  split
  · rename_i hin
    obtain ⟨z, hz, e⟩ := List.any_eq_true.mp hin
    refine ⟨h, fun j => ⟨.inl, fun q => q.elim id fun q => ?_⟩⟩
    rw [q, ← (eqv_iff z k).mp e]
    exact hz
  · rename_i hin
    obtain ⟨h1, h2⟩ := split_lt (k := k) h
    generalize (fs.filter fun o => ltK o k).length = c at h1 h2
    have nk : ∀ x ∈ fs, x ≠ k := fun x hx z => hin (List.any_eq_true.mpr ⟨x, hx, (eqv_iff x k).mpr z⟩)
    have hs : fs.take c ++ fs.drop c = fs := List.take_append_drop c fs
    have hp := h
    rw [← hs] at hp
    obtain ⟨p1, p2, p3⟩ := List.pairwise_append.mp hp
    have h2' : ∀ x ∈ fs.drop c, ltK k x = true := fun x hx => ltK_total (mf x (List.mem_of_mem_drop hx)) mk (nk x (List.mem_of_mem_drop hx)) (h2 x hx)
    refine ⟨?_, fun j => ?_⟩
    · rw [List.append_assoc]
      refine List.pairwise_append.mpr ⟨p1, List.pairwise_cons.mpr ⟨fun x hx => h2' x hx, p2⟩, fun x hx y hy => ?_⟩
      rcases List.mem_cons.mp hy with e | e
      · rw [e]; exact h1 x hx
      · exact p3 x hx y e
    · constructor
      · intro hj
        rcases List.mem_append.mp hj with q | q
        · rcases List.mem_append.mp q with q | q
          · exact .inl (List.mem_of_mem_take q)
          · exact .inr (List.mem_singleton.mp q)
        · exact .inl (List.mem_of_mem_drop q)
      · intro hj
        rcases hj with q | q
        · rw [← hs] at q
          rcases List.mem_append.mp q with q | q
          · exact List.mem_append_left _ (List.mem_append_left _ q)
          · exact List.mem_append_right _ q
        · exact List.mem_append_left _ (List.mem_append_right _ (by rw [q]; exact List.mem_singleton_self _))
theorem foldl_rise_ok : ∀ {ks fs : List NestedKey}, (∀ x ∈ fs, IsMon x) → (∀ x ∈ ks, IsMon x) → fs.Pairwise (fun a b => ltK a b = true) →
    (ks.foldl riseOne fs).Pairwise (fun a b => ltK a b = true) ∧ ∀ j, j ∈ ks.foldl riseOne fs ↔ j ∈ fs ∨ j ∈ ks
  | [], fs, _, _, h => ⟨h, fun j => ⟨.inl, fun q => q.elim id fun z => nomatch z⟩⟩
  | k :: ks, fs, mf, mk, h => by
    obtain ⟨h1, h2⟩ := riseOne_ok mf (mk k (List.mem_cons_self ..)) h
    have mf' : ∀ x ∈ riseOne fs k, IsMon x := fun x hx => ((h2 x).mp hx).elim (mf x) fun e => by rw [e]; exact mk k (List.mem_cons_self ..)
    obtain ⟨h3, h4⟩ := foldl_rise_ok mf' (fun x hx => mk x (List.mem_cons_of_mem _ hx)) h1
    refine ⟨h3, fun j => ?_⟩
    rw [List.foldl_cons, h4, h2, List.mem_cons]
    constructor
    · rintro ((h | h) | h)
      · exact .inl h
      · exact .inr (.inl h)
      · exact .inr (.inr h)
    · rintro (h | h | h)
      · exact .inl (.inl h)
      · exact .inl (.inr h)
      · exact .inr h
theorem riseK_ok {ks : List NestedKey} (mk : ∀ x ∈ ks, IsMon x) : (riseK ks).Pairwise (fun a b => ltK a b = true) ∧ ∀ j, j ∈ riseK ks ↔ j ∈ ks := by
  obtain ⟨h1, h2⟩ := foldl_rise_ok (fs := []) (fun x h => nomatch h) mk .nil
  exact ⟨h1, fun j => (h2 j).trans ⟨fun q => q.elim (fun z => nomatch z) id, .inr⟩⟩
/-- the value at k, 0 where there is none -/
def v0 (m : List NI) (k : NestedKey) : Int := (valI m k).getD 0
def NzI (m : List NI) : Prop := ∀ x ∈ m, x.2 ≠ 0
def nzI (m : List NI) : List NI := m.filter fun x => decide (x.2 ≠ 0)
theorem nz_nzI (m : List NI) : NzI (nzI m) := fun x hx => by simpa using (List.mem_filter.mp hx).2
theorem nodup_nzI {m : List NI} (nd : (keysI m).Nodup) : (keysI (nzI m)).Nodup := nd.sublist (List.filter_sublist.map _)
theorem mons_nzI {m : List NI} (h : MonsI m) : MonsI (nzI m) := fun x hx => h x (List.mem_filter.mp hx).1
theorem v0_nzI {m : List NI} (nd : (keysI m).Nodup) (k : NestedKey) : v0 (nzI m) k = v0 m k := by
  unfold v0
  cases q : valI m k with
  | none =>
    have : valI (nzI m) k = none := valI_none.mpr fun z => by
      obtain ⟨x, hx, rfl⟩ := List.mem_map.mp z
      exact valI_none.mp q (List.mem_map.mpr ⟨x, (List.mem_filter.mp hx).1, rfl⟩)
    rw [this]
  | some c =>
    have hm := (valI_mem nd).mp q
    by_cases z : c = 0
    · have : valI (nzI m) k = none := valI_none.mpr fun y => by
        obtain ⟨x, hx, e⟩ := List.mem_map.mp y
        obtain ⟨h1, h2⟩ := List.mem_filter.mp hx
        have : valI m k = some x.2 := (valI_mem nd).mpr (by rw [← e]; exact h1)
        rw [q] at this
        rw [← Option.some.inj this, z] at h2
        simp at h2
      rw [this, z]
      rfl
    · have : valI (nzI m) k = some c := (valI_mem (nodup_nzI nd)).mpr (List.mem_filter.mpr ⟨hm, by simpa using z⟩)
      rw [this]
theorem val_of_v0 {m : List NI} (nd : (keysI m).Nodup) (nz : NzI m) (k : NestedKey) : valI m k = if v0 m k = 0 then none else some (v0 m k) := by
  unfold v0
  cases q : valI m k with
  | none => rw [Option.getD_none, if_pos rfl]
  | some c =>
    have := nz _ ((valI_mem nd).mp q)
    rw [Option.getD_some, if_neg this]
theorem rise_ext0 {m n : List NI} (hm : MonsI m) (hn : MonsI n) (dm : (keysI m).Nodup) (dn : (keysI n).Nodup) (zm : NzI m) (zn : NzI n) (h : ∀ k, v0 m k = v0 n k) : riseI m = riseI n :=
  rise_ext hm hn dm dn fun k => by rw [val_of_v0 dm zm, val_of_v0 dn zn, h k]
theorem val_perm {m n : List NI} (p : m.Perm n) (dm : (keysI m).Nodup) (k : NestedKey) : valI m k = valI n k := by
  have dn : (keysI n).Nodup := (p.map fun x : NI => x.1).nodup_iff.mp dm
  cases q : valI n k with
  | none => exact valI_none.mpr fun z => valI_none.mp q ((p.map fun x : NI => x.1).mem_iff.mp z)
  | some c => exact (valI_mem dm).mpr (p.mem_iff.mpr ((valI_mem dn).mp q))
theorem nodup_rise {m : List NI} (nd : (keysI m).Nodup) : (keysI (riseI m)).Nodup := ((rise_perm m).map fun x : NI => x.1).nodup_iff.mpr nd
theorem v0_rise {m : List NI} (nd : (keysI m).Nodup) (k : NestedKey) : v0 (riseI m) k = v0 m k := by
  unfold v0
  rw [val_perm (rise_perm m) (nodup_rise nd)]
theorem mons_rise {m : List NI} (h : MonsI m) : MonsI (riseI m) := fun x hx => h x (rise_mem.mp hx)
theorem nz_rise {m : List NI} (h : NzI m) : NzI (riseI m) := fun x hx => h x (rise_mem.mp hx)
theorem len_rise (m : List NI) : (riseI m).length = m.length := (rise_perm m).length_eq
/-! sums -/
theorem v0_put (m : List NI) (k : NestedKey) (c : Int) (j : NestedKey) : v0 (putI m k c) j = if j = k then c else v0 m j := by
  unfold v0
  rw [valI_put]
  split <;> rfl
theorem v0_plusOne (m : List NI) (x : NI) (j : NestedKey) : v0 (plusOne m x) j = if j = x.1 then v0 m j + x.2 else v0 m j := by
  unfold plusOne
  split
  · rw [v0_put]
    by_cases h : j = x.1
    · rw [if_pos h, if_pos h, h]; rfl
    · rw [if_neg h, if_neg h]
  · rename_i z
    unfold v0 at *
    rw [valI_drop]
    by_cases h : j = x.1
    · rw [if_pos h, if_pos h, h]
      simp only [ne_eq, Decidable.not_not] at z
      rw [z]
      rfl
    · rw [if_neg h, if_neg h]
theorem v0_cons (x : NI) (n : List NI) (k : NestedKey) : v0 (x :: n) k = if k = x.1 then x.2 else v0 n k := by
  unfold v0
  rw [valI_cons]
  by_cases h : k = x.1
  · rw [if_pos h, if_pos h.symm]; rfl
  · rw [if_neg h, if_neg fun z => h z.symm]
theorem v0_out {n : List NI} {k : NestedKey} (h : k ∉ keysI n) : v0 n k = 0 := by
  unfold v0
  rw [valI_none.mpr h]
  rfl
theorem v0_plus {n : List NI} : ∀ {m : List NI}, (keysI n).Nodup → ∀ k, v0 (plusI m n) k = v0 m k + v0 n k := by
  induction n with
  | nil => intro m _ k; show v0 m k = v0 m k + 0; omega
  | cons x n ih =>
    intro m nd k
    have nd' : x.1 ∉ keysI n ∧ (keysI n).Nodup := List.nodup_cons.mp nd
    show v0 (plusI (plusOne m x) n) k = _
    rw [ih nd'.2, v0_plusOne, v0_cons]
    by_cases h : k = x.1
    · rw [if_pos h, if_pos h, h, v0_out nd'.1]
      omega
    · rw [if_neg h, if_neg h]
theorem nz_put {m : List NI} (h : NzI m) {k : NestedKey} {c : Int} (hc : c ≠ 0) : NzI (putI m k c) := fun x hx => by
  unfold putI at hx
  split at hx
  · obtain ⟨y, hy, e⟩ := List.mem_map.mp hx
    split at e
    · rw [← e]; exact hc
    · rw [← e]; exact h y hy
  · rcases List.mem_append.mp hx with q | q
    · exact h x q
    · rw [List.mem_singleton.mp q]; exact hc
theorem nz_plus {n : List NI} : ∀ {m : List NI}, NzI m → NzI (plusI m n) := by
  induction n with
  | nil => exact fun h => h
  | cons x n ih =>
    intro m h
    refine ih (m := plusOne m x) ?_
    unfold plusOne
    split
    · rename_i z; exact nz_put h z
    · exact fun y hy => h y (List.mem_filter.mp hy).1
theorem v0_neg (n : List NI) (k : NestedKey) : v0 (negI n) k = - v0 n k := by
  induction n with
  | nil => rfl
  | cons x n ih =>
    show v0 ((x.1, x.2 * -1) :: negI n) k = _
    rw [v0_cons, v0_cons, ih]
    split <;> omega
theorem nz_neg {n : List NI} (h : NzI n) : NzI (negI n) := fun x hx => by
  obtain ⟨y, hy, rfl⟩ := List.mem_map.mp hx
  have := h y hy
  show y.2 * -1 ≠ 0
  omega
/-- the law's own sum -/
def sumOne (s : Int) (t : List NI) (x : NI) : List NI := putI t x.1 (v0 t x.1 + s * x.2)
def sumI (m n : List NI) (s : Int) : List NI := n.foldl (sumOne s) m
theorem v0_sum {n : List NI} {s : Int} : ∀ {m : List NI}, (keysI n).Nodup → ∀ k, v0 (sumI m n s) k = v0 m k + s * v0 n k := by
  induction n with
  | nil => intro m _ k; show v0 m k = v0 m k + s * 0; omega
  | cons x n ih =>
    intro m nd k
    have nd' : x.1 ∉ keysI n ∧ (keysI n).Nodup := List.nodup_cons.mp nd
    show v0 (sumI (sumOne s m x) n s) k = _
    rw [ih nd'.2, v0_cons]
    unfold sumOne
    rw [v0_put]
    by_cases h : k = x.1
    · rw [if_pos h, if_pos h, h, v0_out nd'.1]
      omega
    · rw [if_neg h, if_neg h]
theorem nodup_sum {n : List NI} {s : Int} : ∀ {m : List NI}, (keysI m).Nodup → (keysI (sumI m n s)).Nodup := by
  induction n with
  | nil => exact fun h => h
  | cons x n ih => exact fun h => ih (nodup_put h _ _)
theorem keys_sum {n : List NI} {s : Int} : ∀ {m : List NI} {j : NestedKey}, j ∈ keysI (sumI m n s) → j ∈ keysI m ∨ j ∈ keysI n := by
  induction n with
  | nil => exact fun h => .inl h
  | cons x n ih =>
    intro m j h
    rcases ih (m := sumOne s m x) h with h | h
    · rcases keys_put h with h | h
      · exact .inr (by rw [h]; exact List.mem_cons_self ..)
      · exact .inl h
    · exact .inr (List.mem_cons_of_mem _ h)
theorem len_sum {n : List NI} {s : Int} : ∀ {m : List NI}, (sumI m n s).length ≤ m.length + n.length := by
  induction n with
  | nil => exact Nat.le_refl _
  | cons x n ih =>
    intro m
    have h1 := ih (m := sumOne s m x)
    have h2 := len_put m x.1 (v0 m x.1 + s * x.2)
    show (sumI (sumOne s m x) n s).length ≤ _
    rw [List.length_cons]
    unfold sumOne at h1 ⊢
    omega
/-- the law's own polynomial of a table -/
def polyOne (m : List NI) (k : NestedKey) : Option NI := if v0 m k ≠ 0 then some (k, v0 m k) else none
def polyI (m : List NI) : List NI := (riseK (keysI m)).filterMap (polyOne m)
theorem polyI_eq {m : List NI} (mo : MonsI m) (nd : (keysI m).Nodup) : polyI m = riseI (nzI m) := by
  obtain ⟨h1, h2⟩ := riseK_ok (monsI_keys.mp mo)
  refine rising_ext ltN_asy ?_ (rise_sorted (mons_nzI mo) (nodup_nzI nd)) fun x => ?_
  · refine List.Pairwise.filterMap _ (fun a a' h b hb b' hb' => ?_) h1
    unfold polyOne at hb hb'
    split at hb
    · split at hb'
      · cases hb; cases hb'; exact h
      · cases hb'
    · cases hb
  · rw [rise_mem]
    obtain ⟨k, c⟩ := x
    constructor
    · intro h
      obtain ⟨j, hj, e⟩ := List.mem_filterMap.mp h
      unfold polyOne at e
      split at e
      · rename_i z
        cases e
        rw [← v0_nzI nd] at z ⊢
        have := val_of_v0 (nodup_nzI nd) (nz_nzI m) k
        rw [if_neg z] at this
        exact (valI_mem (nodup_nzI nd)).mp this
      · cases e
    · intro h
      have hv := (valI_mem (nodup_nzI nd)).mpr h
      have hc : v0 m k = c := by
        rw [← v0_nzI nd]
        unfold v0
        rw [hv]
        rfl
      have cz : c ≠ 0 := nz_nzI m _ h
      have hk : k ∈ keysI m := List.mem_map.mpr ⟨(k, c), (List.mem_filter.mp h).1, rfl⟩
      refine List.mem_filterMap.mpr ⟨k, (h2 k).mpr hk, ?_⟩
      unfold polyOne
      rw [if_pos (by rw [hc]; exact cz), hc]
end K1P

set_option Elab.async false
set_option linter.all false
set_option maxRecDepth 100000
set_option maxHeartbeats 4000000
/-! The law's own polynomials and sums. -/
namespace K1P
open PySem L2 K1D
abbrev sPoly : Stmt := top 26
abbrev sSum : Stmt := top 29
def LayI (m : List NI) : Prop := ∀ x ∈ m, x.1.data.canLay0 = true
theorem layI_keys {m : List NI} : LayI m ↔ ∀ k ∈ keysI m, k.data.canLay0 = true := by
  constructor
  · intro h k hk
    obtain ⟨x, hx, rfl⟩ := List.mem_map.mp hk
    exact h x hx
  · intro h x hx
    exact h x.1 (List.mem_map.mpr ⟨x, hx, rfl⟩)
theorem allAl_keys {m : List NI} (mo : MonsI m) (la : LayI m) : AllAl (keysI m) := by
  refine ⟨fun a ha b hb => ?_, fun a ha => ⟨fun z => ?_, depth_isMon (monsI_keys.mp mo a ha), layI_keys.mp la a ha⟩⟩
  · obtain ⟨x, rfl⟩ := monsI_keys.mp mo a ha
    obtain ⟨y, rfl⟩ := monsI_keys.mp mo b hb
    exact mon_alike x y
  · obtain ⟨x, e⟩ := monsI_keys.mp mo a ha
    rw [z] at e
    cases e
theorem keyVs_keys {K : PySem.W.Frag} {H : Hp} : ∀ {kvs : List NE} {m : List NI}, KeysN K H kvs → IntsN kvs m → KeyVs K H (keysI m) (kvs.map fun x => V.ref x.2.1)
  | [], m, _, h => by rw [ints_nil h]; exact .nil
  | x :: kvs, m, ks, h => by
    obtain ⟨c, r, rfl, e, t⟩ := ints_cons h
    exact .cons (ks x (List.mem_cons_self ..)).1 (keyVs_keys (fun y hy => ks y (List.mem_cons_of_mem _ hy)) t)
structure PolyTxt (K : PySem.W.Frag) (mg : Str → Option Value) (fR : Addr) : Prop where
  tuple : mg "tuple" = none
  list : mg "list" = none
  gR : mg "_law_rising" = some (.ref fR)
  kR : PySem.W.keepIn K (.ref fR) = true
def spPoly (K : PySem.W.Frag) (w : World) : Sp := fun vs H Q _ => ∃ (d : Addr) (m : List NI), vs = [.ref d] ∧ DictI K w H d m ∧ MonsI m ∧ LayI m ∧ m.length < sizeLine ∧ ∀ (p : Addr) (H' : Hp), Same H H' → PolyV K H' p (riseI (nzI m)) → Q (.ref p) H'
section
variable {P : Program} {w : World} {K : PySem.W.Frag} {mg : Str → Option Value} {base : Heap} {fR : Addr}
theorem scPoly : FnScope ["table", "monomial"] ["table"] (defScope sPoly) := ⟨rfl, rfl, rfl, by decide +kernel, rfl, by decide +kernel, by decide +kernel⟩
theorem val_v0 {m : List NI} {k : NestedKey} (h : k ∈ keysI m) : valI m k = some (v0 m k) := by
  unfold v0
  cases q : valI m k with
  | none => exact absurd h (valI_none.mp q)
  | some c => rfl
theorem ok_poly {f : Addr} {fd fdR : FuncData} (F : Fun K "_law_poly" "_law_poly" sPoly f fd) (T : PolyTxt K mg fR) (GR : FnOk P w K mg base CX0 1 fR fdR ["things"] (spRise K)) (bR : Binds K fdR ["things"] []) : FnOk P w K mg base CX0 2 f fd ["table"] (spPoly K w) := by
  refine F.ok scPoly (fun vs H Q E h => ?_) (fun cdv A outer s H vs Q E hr h => ?_)
  · obtain ⟨d, m, rfl, _⟩ := h
    rfl
  · obtain ⟨d, m, rfl, ⟨kvs, hd, ks, im, nd⟩, mo, la, lt, go⟩ := h
    refine ⟨_, pss_one (ps_ret (pe_tupleOf (by rfl) T.tuple (pe_lc (own := [("monomial", 1)]) (g := gName 1) (tt := tTest (tOp rNe (tNGet K w (tVar 0) (tVar 1)) (tC (.int 0)))) (te := tTup (tCons (tVar 1) (tCons (tNGet K w (tVar 0) (tVar 1)) tNil))) rfl scPoly.nd
      (pi_list (pe_call GR hr rfl T.gR T.kR bR .nil pass0 (pa_cons (pe_callTy (call_list_dN rfl) (by rfl) T.list (by decide +kernel) (pa_cons (pv 0) pa_nil)) pa_nil)))
      (blkOk_by (own := [("monomial", 1)]) (N := ["table", "monomial"]) (sc := defScope sPoly) (by decide +kernel)) (fun _ _ _ _ _ => pg_name (i := 1) scPoly.nd rfl (Or.inl rfl))
      (fun _ _ _ _ _ => pts_one (pt_cmpR op_ne (pe_nget (hu9 hr) (pv 0) (pv 1) (fun _ _ => rfl)) pe_int (nomark _)))
      (fun _ _ _ _ _ => pe_tup (pa_cons (pv 1) (pa_cons (pe_nget (hu9 hr) (pv 0) (pv 1) (fun _ _ => rfl)) pa_nil)))))), ?_⟩
    refine ⟨_, rfl, d, kvs, rfl, .inl hd, fun l nl => ?_⟩
    have s1 : Same H (upd H l (.lst (kvs.map fun x => V.ref x.2.1))) := fun a o e => (upd_ne (ne_of_none e nl)).trans e
    refine ⟨l, _, keysI m, rfl, upd_same, keyVs_keys (ks.up (same_tups s1)) im, allAl_keys mo la, by unfold keysI; rw [List.length_map]; exact lt, fun p H2 zs s2 np hz kz => ?_⟩
    have sm : Same H H2 := fun a o e => s2 a o (s1 a o e)
    have lz := keyVs_len kz
    have lr := len_riseK (keysI m)
    have lk : (keysI m).length = m.length := List.length_map ..
    refine ⟨p, rfl, ⟨zs, SqL.of hz⟩, fun L nL => ?_⟩
    refine lc_list (K := K) (a := p) (xs := zs) (fun (j : Nat) (G : Hp) => Same H2 G ∧ ∃ ys : List V, G L = some (.lst ys) ∧ ys.length ≤ j ∧ KeyVs K G ((((riseK (keysI m)).take j).filterMap (polyOne m)).map pairK) ys) ⟨fun a o e => (upd_ne (ne_of_none e nL)).trans e, [], upd_same, Nat.le_refl _, .nil⟩
      (fun j G _ ⟨sg, _⟩ => SqL.of (sg _ _ hz)) (fun j v G hv ⟨sg, ys, g1, g2, g3⟩ => ?_) (fun G ⟨sg, ys, g1, g2, g3⟩ => ?_)
    · obtain ⟨k, hk, kv⟩ := keyVs_at kz hv
      have km : k ∈ keysI m := mem_riseK (List.mem_of_getElem? hk)
      have lt' : j < (riseK (keysI m)).length := (List.getElem?_eq_some_iff.mp hk).1
      have et : (riseK (keysI m)).take (j + 1) = (riseK (keysI m)).take j ++ [k] := by
        rw [List.take_succ_eq_append_getElem lt', (List.getElem?_eq_some_iff.mp hk).2]
      obtain ⟨b, rfl⟩ := mon_tup (monsI_keys.mp mo k km) kv
      have kG : KeyV K G k (.ref b) := kv.up (same_tups sg) _ _
      have dG : G d = some (dN w d kvs) := sg _ _ (sm _ _ hd)
      have ksG : KeysN K G kvs := (ks.up (same_tups sm)).up (same_tups sg)
      have hv' : valN kvs k = some (.int (v0 m k)) := by
        rw [ints_val im, val_v0 km]
        rfl
      have dk := depth_isMon (monsI_keys.mp mo k km)
      refine ⟨rfl, _, rfl, _, rfl, d, b, kvs, k, _, rfl, rfl, .inl dG, ksG, kG, dk, hv', rfl, _, rfl, ?_⟩
      have yl : ys.length < sizeLine := by omega
      by_cases z : v0 m k = 0
      · refine ifN (by simp [z]) ⟨sg, ys, g1, by omega, ?_⟩
        rw [et, List.filterMap_append]
        have e0 : [k].filterMap (polyOne m) = [] := by
          rw [List.filterMap_cons]
          unfold polyOne
          rw [if_neg (fun q => q z)]
          rfl
        rw [e0, List.append_nil]
        exact g3
      · refine ifY (by simp [z]) ?_
        refine ⟨_, rfl, _, rfl, _, rfl, d, b, kvs, k, _, rfl, rfl, .inl dG, ksG, kG, dk, hv', by show 2 ≤ sizeLine; decide, fun t nt => ?_⟩
        have s3 : Same G (upd G t (.tup [.ref b, .int (v0 m k)])) := fun a o e => (upd_ne (ne_of_none e nt)).trans e
        have kt : KeyV K (upd G t (.tup [.ref b, .int (v0 m k)])) (pairK (k, v0 m k)) (.ref t) := .tup upd_same (.cons (kG.up (same_tups s3) _ _) (.cons (.int _) .nil))
        have g1' := s3 _ _ g1
        have g3' := KeyVs.up (same_tups s3) _ _ g3
        generalize upd G t (.tup [.ref b, .int (v0 m k)]) = G2 at s3 kt g1' g3' ⊢
        refine ⟨ys, g1', yl, fun a o e => ?_, ys ++ [.ref t], upd_same, by rw [List.length_append]; show ys.length + 1 ≤ j + 1; omega, ?_⟩
        · have ne : a ≠ L := fun q => by rw [q, nL] at e; cases e
          exact (upd_ne ne).trans (s3 a o (sg a o e))
        · rw [et, List.filterMap_append]
          have e0 : [k].filterMap (polyOne m) = [(k, v0 m k)] := by
            rw [List.filterMap_cons]
            unfold polyOne
            rw [if_pos z]
            rfl
          rw [e0, List.map_append]
          exact KeyVs.up (Tups.put fun xs q => by
            rcases q with q | ⟨o, q⟩
            · rw [g1'] at q; cases q
            · rw [g1'] at q; cases q) _ _ (keyVs_snoc g3' kt)
    · rw [lz, List.take_length] at g3
      have g3' : KeyVs K G ((riseI (nzI m)).map pairK) ys := by
        rw [← polyI_eq mo nd]
        exact g3
      refine .inl ⟨L, ys, rfl, SqL.of g1, fun t nt => ?_⟩
      have s3 : Same G (upd G t (.tup ys)) := fun a o e => (upd_ne (ne_of_none e nt)).trans e
      exact go t _ (fun a o e => s3 a o (sg a o (sm a o e))) ⟨.tup upd_same (KeyVs.up (same_tups s3) _ _ g3'), mons_rise (mons_nzI mo), nodup_rise (nodup_nzI nd)⟩
/-- _law_sum(one, other, sign) -/
def spSumD (K : PySem.W.Frag) (w : World) : Sp := fun vs H Q _ => ∃ (d e : Addr) (s : Int) (m n : List NI), vs = [.ref d, .ref e, .int s] ∧ -(2 ^ 64) < s ∧ s < 2 ^ 64 ∧ DictI K w H d m ∧ DictI K w H e n ∧ MonsI m ∧ MonsI n ∧ m.length + n.length < sizeLine ∧
  ∀ (p : Addr) (H' : Hp), Same H H' → H p = none → DictI K w H' p (sumI m n s) → Q (.ref p) H'
theorem sumI_take {n : List NI} {i : Nat} {x : NI} {s : Int} (h : n[i]? = some x) (m : List NI) : sumI m (n.take (i + 1)) s = sumOne s (sumI m (n.take i) s) x := by
  have lt : i < n.length := (List.getElem?_eq_some_iff.mp h).1
  unfold sumI
  rw [List.take_succ_eq_append_getElem lt, List.foldl_append, (List.getElem?_eq_some_iff.mp h).2]
  rfl
theorem scSum : FnScope ["one", "other", "sign", "table", "monomial"] ["one", "other", "sign"] (defScope sSum) := ⟨rfl, rfl, rfl, by decide +kernel, rfl, by decide +kernel, by decide +kernel⟩
theorem ok_sum {f : Addr} {fd : FuncData} (F : Fun K "_law_sum" "_law_sum" sSum f fd) (list : mg "list" = none) : FnOk P w K mg base CX0 1 f fd ["one", "other", "sign"] (spSumD K w) := by
  refine F.ok scSum (fun vs H Q E h => ?_) (fun cdv A outer s H vs Q E hr h => ?_)
  · obtain ⟨d, e, s, m, n, rfl, _⟩ := h
    rfl
  · obtain ⟨d, e, s, m, n, rfl, sl, sh, ⟨kvs, hd, ks, im, nd⟩, ⟨lvs, he, ls, il, ne⟩, mo, no, lt, go⟩ := h
    refine ⟨_, pss_cons (ps_set (i := 3) scSum.nd rfl (Or.inl rfl) pe_nnew)
      (pss_cons (ps_for PassesOwn.never rfl (pi_list (pe_callTy (call_list_dN rfl) (by rfl) list (by decide +kernel) (pa_cons (pv 0) pa_nil))) (pg_name (i := 4) scSum.nd rfl (Or.inl rfl))
        (pss_one (ps_nput (hu9 hr) (pv 3) (pv 4) (pe_nget (hu9 hr) (pv 0) (pv 4) (fun _ _ => rfl)) rfl)))
      (pss_cons (ps_for PassesOwn.never rfl (pi_list (pe_callTy (call_list_dN rfl) (by rfl) list (by decide +kernel) (pa_cons (pv 1) pa_nil))) (pg_name (i := 4) scSum.nd rfl (Or.inl rfl))
        (pss_one (ps_nput (hu9 hr) (pv 3) (pv 4) (pe_op op_add (pe_nget2 (hu9 hr) (pv 3) (pv 4) pe_int ⟨rfl, rfl, rfl, rfl⟩) (pe_op op_mul (pv 2) (pe_nget (hu9 hr) (pv 1) (pv 4) (fun _ _ => rfl)))) rfl)))
      (pss_one (ps_ret (pv 3))))), ?_⟩
    have lk := ints_len im
    have ll := ints_len il
    refine fun D nD => ?_
    have Dd : D ≠ d := fun z => by rw [z, hd] at nD; cases nD
    have De : D ≠ e := fun z => by rw [z, he] at nD; cases nD
    have s0 : Same H (upd H D (dN w D [])) := fun a o q => (upd_ne (ne_of_none q nD)).trans q
    refine ⟨_, rfl, d, kvs, rfl, .inl (s0 _ _ hd), fun l nl => ?_⟩
    have Dl : D ≠ l := ne_of_none upd_same nl
    have s1 : Same H (upd (upd H D (dN w D [])) l (.lst (kvs.map fun x => V.ref x.2.1))) := fun a o q => (upd_ne (ne_of_none (s0 a o q) nl)).trans (s0 a o q)
    refine ⟨l, rfl, ⟨_, SqL.of upd_same⟩, for_list (K := K) (a := l) (xs := kvs.map fun x => V.ref x.2.1) (fun (i : Nat) (σ : L2.St) (G : Hp) => ∃ u4 : Option V, σ = [some (.ref d), some (.ref e), some (.int s), some (.ref D), u4] ∧ Same H G ∧ G l = some (.lst (kvs.map fun x => V.ref x.2.1)) ∧
        ∃ os : List NE, G D = some (dN w D os) ∧ KeysN K G os ∧ IntsN os ((m.take i).map fun x : NI => (x.1, x.2)))
      ⟨none, rfl, s1, upd_same, [], (upd_ne Dl).trans upd_same, (fun x hx => by cases hx), rfl⟩ (fun i σ G _ ⟨_, _, _, h, _⟩ => SqL.of h) (fun i x σ G hx ⟨u4, hσ, sm, hl, os, h1, h2, h3⟩ => ?_) (fun σ G ⟨u4, hσ, sm, hl, os, h1, h2, h3⟩ => ?_)⟩
    · subst hσ
      rw [List.getElem?_map] at hx
      obtain ⟨y, hy, rfl⟩ := Option.map_eq_some_iff.mp hx
      obtain ⟨c, hc, hv⟩ := ints_at im hy
      obtain ⟨k3, k4⟩ := ks y (List.mem_of_getElem? hy)
      have key : KeyV K G y.1 (.ref y.2.1) := k3.up (same_tups sm) _ _
      have hval : valN kvs y.1 = some (V.int c) := by
        rw [ints_val im, (valI_mem nd).mpr (List.mem_of_getElem? hc)]
        rfl
      have hlen : os.length < sizeLine := by
        have := ints_len h3
        rw [List.length_map, List.length_take] at this
        omega
      refine ⟨_, rfl, _, rfl, d, y.2.1, kvs, y.1, _, rfl, rfl, .inl (sm _ _ hd), ks.up (same_tups sm), key, k4, hval, _, rfl, _, rfl, D, y.2.1, os, y.1, rfl, rfl, h1, h2, hlen, key, k4, _, rfl, fun a o q => ?_, (upd_ne (Ne.symm Dl)).trans hl, _, upd_same, (h2.put key k4).up (Tups.put (not_tup_dN h1)), ?_⟩
      · have nq : a ≠ D := fun z => by rw [z, nD] at q; cases q
        exact (upd_ne nq).trans (sm a o q)
      · have := ints_put h3 y.1 y.2.1 c
        rw [show putI ((m.take i).map fun x => (x.1, x.2)) y.1 c = (m.take (i + 1)).map fun x => (x.1, x.2) from put_take nd (fun x => x.2) hc] at this
        exact this
    · subst hσ
      have em : (m.take (kvs.map fun x => V.ref x.2.1).length).map (fun x : NI => (x.1, x.2)) = m := by
        rw [List.length_map, lk, List.take_length]
        exact List.map_id m
      rw [em] at h3
      refine ⟨_, rfl, e, lvs, rfl, .inl (sm _ _ he), fun l2 nl2 => ?_⟩
      have s2 : Same G (upd G l2 (.lst (lvs.map fun x => V.ref x.2.1))) := fun a o q => (upd_ne (ne_of_none q nl2)).trans q
      have Dl2 : D ≠ l2 := ne_of_none h1 nl2
      refine ⟨l2, rfl, ⟨_, SqL.of upd_same⟩, for_list (K := K) (a := l2) (xs := lvs.map fun x => V.ref x.2.1) (fun (i : Nat) (σ : L2.St) (G : Hp) => ∃ u4 : Option V, σ = [some (.ref d), some (.ref e), some (.int s), some (.ref D), u4] ∧ Same H G ∧ G l2 = some (.lst (lvs.map fun x => V.ref x.2.1)) ∧
          ∃ os : List NE, G D = some (dN w D os) ∧ KeysN K G os ∧ IntsN os (sumI m (n.take i) s))
        ⟨_, rfl, fun a o q => s2 a o (sm a o q), upd_same, os, s2 _ _ h1, h2.up (same_tups s2), h3⟩ (fun i σ G _ ⟨_, _, _, h, _⟩ => SqL.of h) (fun i x σ G hx ⟨u4, hσ, sm, hl, os, h1, h2, h3⟩ => ?_) (fun σ G ⟨u4, hσ, sm, hl, os, h1, h2, h3⟩ => ?_)⟩
      · subst hσ
        rw [List.getElem?_map] at hx
        obtain ⟨y, hy, rfl⟩ := Option.map_eq_some_iff.mp hx
        obtain ⟨c, hc, hv⟩ := ints_at il hy
        obtain ⟨k3, k4⟩ := ls y (List.mem_of_getElem? hy)
        have key : KeyV K G y.1 (.ref y.2.1) := k3.up (same_tups sm) _ _
        have hval : valN lvs y.1 = some (V.int c) := by
          rw [ints_val il, (valI_mem ne).mpr (List.mem_of_getElem? hc)]
          rfl
        have hget : (valN os y.1).getD (.int 0) = .int (v0 (sumI m (n.take i) s) y.1) := by
          rw [ints_val h3]
          unfold v0
          cases valI (sumI m (n.take i) s) y.1 <;> rfl
        have hlen : os.length < sizeLine := by
          have q1 := ints_len h3
          have q2 := len_sum (m := m) (n := n.take i) (s := s)
          rw [List.length_take] at q2
          omega
        refine ⟨_, rfl, D, os, rfl, .inl h1, h2, _, rfl, y.2.1, y.1, rfl, .inl h1, h2, key, k4, _, rfl, _, rfl, _, rfl, e, y.2.1, lvs, y.1, _, rfl, rfl, .inl (sm _ _ he), ls.up (same_tups sm), key, k4, hval, s, c, rfl, rfl, .inl ⟨sl, sh⟩, _, _, hget, rfl, ?_⟩
        refine ⟨_, rfl, _, rfl, D, y.2.1, os, y.1, rfl, rfl, h1, h2, hlen, key, k4, _, rfl, fun a o q => ?_, (upd_ne (Ne.symm (by rintro rfl; rw [h1] at hl; cases hl))).trans hl, _, upd_same, (h2.put key k4).up (Tups.put (not_tup_dN h1)), ?_⟩
        · have nq : a ≠ D := fun z => by rw [z, nD] at q; cases q
          exact (upd_ne nq).trans (sm a o q)
        · rw [sumI_take hc]
          exact ints_put h3 y.1 y.2.1 _
      · subst hσ
        have em : n.take (lvs.map fun x => V.ref x.2.1).length = n := by rw [List.length_map, ll, List.take_length]
        rw [em] at h3
        exact ⟨_, rfl, go D G sm nD ⟨os, h1, h2, h3, nodup_sum nd⟩⟩
end
end K1P

set_option Elab.async false
set_option linter.all false
set_option maxRecDepth 100000
set_option maxHeartbeats 4000000
/-! What the law draws: numbers, monomials, names. -/
namespace K1P
open PySem L2 K1D
open K0 (FlowAt FlowL spDraw row)
abbrev sNames : Stmt := top 23
abbrev sMon : Stmt := top 25
abbrev sNum : Stmt := top 27
/-- all but what is at p stands -/
def But (p : Addr) (H G : Hp) : Prop := ∀ a o, a ≠ p → H a = some o → G a = some o
section
variable {p q : Addr} {H G F : Hp} {o : HO}
theorem But.refl : But p H H := fun _ _ _ e => e
theorem But.trans (h : But p H G) (g : But p G F) : But p H F := fun a o n e => g a o n (h a o n e)
theorem But.flow : But p H (upd H p o) := fun a u n e => (upd_ne n).trans e
theorem But.new (n : H q = none) : But p H (upd H q o) := fun a u _ e => (upd_ne (ne_of_none e n)).trans e
theorem But.same (s : Same H G) : But p H G := fun a o _ e => s a o e
/-- an object that was not there at first -/
theorem But.set (h : But p H G) (n : H q = none) : But p H (upd G q o) := fun a u m e => (upd_ne (ne_of_none e n)).trans (h a u m e)
theorem flow_lst (f : FlowAt H p) : ∃ xs, H p = some (.lst xs) := let ⟨_, _, _, _, _, _, _, h, _⟩ := f; ⟨_, h⟩
theorem But.tups {K : PySem.W.Frag} (h : But p H G) (f : FlowAt H p) : Tups K H G := fun a xs e => by
  obtain ⟨ys, hp⟩ := flow_lst f
  exact h a _ (fun z => by rw [z, hp] at e; cases e) e
theorem But.dict {K : PySem.W.Frag} {w : World} {d : Addr} {m : List NI} (h : But p H G) (f : FlowAt H p) (x : DictI K w H d m) : DictI K w G d m := by
  obtain ⟨kvs, h1, h2, h3⟩ := x
  obtain ⟨ys, hp⟩ := flow_lst f
  exact ⟨kvs, h d _ (fun z => by rw [z, hp] at h1; cases h1) h1, h2.up (h.tups f), h3⟩
theorem flow_none (f : FlowAt H p) (n : H q = none) : q ≠ p := fun z => by
  obtain ⟨ys, hp⟩ := flow_lst f
  rw [z, hp] at n
  cases n
theorem but_none (h : But p H G) (g : FlowAt G p) (n : G q = none) : H q = none := by
  cases e : H q with
  | none => rfl
  | some o => rw [h q o (flow_none g n) e] at n; cases n
end
set_option exponentiation.threshold 100000
def greatN : Int := 10 ^ 199
theorem great_eq : ((10 : Int) ^ 50 * 10 ^ 50 * 10 ^ 50 * 10 ^ 49) = greatN := by decide +kernel
def spNumL : Sp := fun vs H Q _ => ∃ p : Addr, vs = [.ref p] ∧ FlowAt H p ∧ ∀ (z : Int) (G : Hp), z ≠ 0 → z.natAbs ≤ greatN.natAbs → FlowAt G p → But p H G → Q (.int z) G
structure DrawTxt (K : PySem.W.Frag) (mg : Str → Option Value) (fD : Addr) : Prop where
  gD : mg "_law_draw" = some (.ref fD)
  kD : PySem.W.keepIn K (.ref fD) = true
section
variable {P : Program} {w : World} {K : PySem.W.Frag} {mg : Str → Option Value} {base : Heap} {fD : Addr}
theorem scNum : FnScope ["flow", "great", "wide", "number_v"] ["flow"] (defScope sNum) := ⟨rfl, rfl, rfl, by decide +kernel, rfl, by decide +kernel, by decide +kernel⟩
theorem wide_lt {k : Int} (h : k.natAbs ≤ greatN.natAbs) : k.natAbs < 2 ^ 8000 := Nat.lt_of_le_of_lt h (Nat.lt_of_lt_of_le (by decide +kernel : greatN.natAbs < 2 ^ 700) (Nat.pow_le_pow_right (by decide) (by decide)))
theorem ok_num {f : Addr} {fd fdD : FuncData} (F : Fun K "_law_number" "_law_number" sNum f fd) (T : DrawTxt K mg fD) (GD : FnOk P w K mg base CX0 2 fD fdD ["flow", "many"] spDraw) (bD : Binds K fdD ["flow", "many"] []) : FnOk P w K mg base CX0 3 f fd ["flow"] spNumL := by
  refine F.ok scNum (fun vs H Q E h => ?_) (fun cdv A outer s H vs Q E hr h => ?_)
  · obtain ⟨p, rfl, _⟩ := h
    rfl
  · obtain ⟨p, rfl, hf, go⟩ := h
    refine ⟨_, pss_cons (ps_set (i := 1) scNum.nd rfl (Or.inl rfl) (pe_op op_mulW (pe_op op_mulW (pe_op op_mulW (pe_op op_pow pe_int pe_int) (pe_op op_pow pe_int pe_int)) (pe_op op_pow pe_int pe_int)) (pe_op op_pow pe_int pe_int)))
      (pss_cons (ps_set (i := 2) scNum.nd rfl (Or.inl rfl) (pe_ix ix_list (pe_lst (pa_cons pe_int (pa_cons pe_int (pa_cons pe_int (pa_cons (pe_op op_pow pe_int pe_int) (pa_cons (pv 1) pa_nil)))))) (pe_call GD hr rfl T.gD T.kD bD .nil pass0 (pa_cons (pv 0) (pa_cons pe_int pa_nil))) (fun _ _ => rfl)))
      (pss_cons (ps_set (i := 3) scNum.nd rfl (Or.inl rfl) (pe_op op_add pe_int (pe_call GD hr rfl T.gD T.kD bD .nil pass0 (pa_cons (pv 0) (pa_cons (pv 2) pa_nil)))))
      (pss_one (ps_ret (pe_op op_mul (pv 3) (pe_ix ix_list (pe_lst (pa_cons pe_int (pa_cons (pe_un un_neg pe_int) pa_nil))) (pe_call GD hr rfl T.gD T.kD bD .nil pass0 (pa_cons (pv 0) (pa_cons pe_int pa_nil))) (fun _ _ => rfl))))))), ?_⟩
    have pw : CPow 10 50 := ⟨by decide, by decide, by decide⟩
    refine ⟨_, _, rfl, rfl, ⟨by decide, by decide, by decide⟩, _, _, rfl, rfl, ⟨by decide, by decide, by decide⟩, _, _, rfl, rfl, by show CMulW ((10 : Int) ^ 50) ((10 : Int) ^ 50); unfold CMulW; decide +kernel, ?_⟩
    refine ⟨_, _, rfl, rfl, ⟨by decide, by decide, by decide⟩, _, _, rfl, rfl, by show CMulW ((10 : Int) ^ 50 * (10 : Int) ^ 50) ((10 : Int) ^ 50); unfold CMulW; decide +kernel, ?_⟩
    refine ⟨_, _, rfl, rfl, ⟨by decide, by decide, by decide⟩, _, _, rfl, rfl, by show CMulW ((10 : Int) ^ 50 * (10 : Int) ^ 50 * (10 : Int) ^ 50) ((10 : Int) ^ 49); unfold CMulW; decide +kernel, ?_⟩
    refine (?_ : gName 1 (V.int ((10 : Int) ^ 50 * 10 ^ 50 * 10 ^ 50 * 10 ^ 49)) _ H _)
    rw [great_eq]
    refine ⟨_, _, rfl, rfl, ⟨by decide, by decide, by decide⟩, _, rfl, by show 5 ≤ sizeLine; decide, fun q nq => ?_⟩
    have qp := flow_none hf nq
    obtain ⟨l, hf⟩ := hf
    have b1 : But p H (upd H q (.lst [.int 1, .int 1, .int 9, .int (10 ^ (30 : Int).toNat), .int greatN])) := But.new nq
    have f1 : FlowL (upd H q (.lst [.int 1, .int 1, .int 9, .int (10 ^ (30 : Int).toNat), .int greatN])) p l := hf.up nq
    have e1 : upd H q (.lst [.int 1, .int 1, .int 9, .int (10 ^ (30 : Int).toNat), .int greatN]) q = some (.lst [.int 1, .int 1, .int 9, .int (10 ^ (30 : Int).toNat), .int greatN]) := upd_same
    refine ⟨_, rfl, p, l, 5, rfl, f1, by decide +kernel, fun z xs z0 z1 f2 => ?_⟩
    have b2 := b1.trans (But.flow (o := .lst xs))
    have e2 : upd (upd H q (.lst [.int 1, .int 1, .int 9, .int (10 ^ (30 : Int).toNat), .int greatN])) p (.lst xs) q = some (.lst [.int 1, .int 1, .int 9, .int (10 ^ (30 : Int).toNat), .int greatN]) := (upd_ne qp).trans e1
    generalize upd (upd H q (.lst [.int 1, .int 1, .int 9, .int (10 ^ (30 : Int).toNat), .int greatN])) p (.lst xs) = G2 at f2 b2 e2 ⊢
    obtain ⟨j, rfl⟩ : ∃ j : Nat, z = j := ⟨z.toNat, by omega⟩
    have hj : j < 5 := by omega
    have hv : ∃ kw : Int, ([.int 1, .int 1, .int 9, .int (10 ^ (30 : Int).toNat), .int greatN] : List V)[j]? = some (.int kw) ∧ 1 ≤ kw ∧ kw ≤ greatN := by
      match j, hj with
      | 0, _ => exact ⟨1, rfl, by decide, by decide +kernel⟩
      | 1, _ => exact ⟨1, rfl, by decide, by decide +kernel⟩
      | 2, _ => exact ⟨9, rfl, by decide, by decide +kernel⟩
      | 3, _ => exact ⟨10 ^ (30 : Int).toNat, rfl, by decide +kernel, by decide +kernel⟩
      | 4, _ => exact ⟨greatN, rfl, by decide +kernel, Int.le_refl _⟩
    obtain ⟨kw, hkw, k1, k2⟩ := hv
    have gp : (0 : Int) < greatN := by decide +kernel
    refine ⟨q, _, _, _, rfl, rfl, SqL.of e2, atI_nat hkw, ?_⟩
    refine ⟨_, rfl, _, rfl, p, l, kw, rfl, f2, wide_lt (by omega), fun z2 xs2 g0 g1 f3 => ?_⟩
    have b3 := b2.trans (But.flow (o := .lst xs2))
    generalize upd G2 p (.lst xs2) = G3 at f3 b3 ⊢
    refine ⟨_, _, rfl, rfl, ?_⟩
    refine ⟨_, rfl, _, rfl, by show 2 ≤ sizeLine; decide, fun q2 nq2 => ?_⟩
    have qp2 := flow_none ⟨l, f3⟩ nq2
    refine ⟨_, rfl, p, l, 2, rfl, f3.up nq2, by decide +kernel, fun z3 xs3 y0 y1 f4 => ?_⟩
    have b4 := (b3.trans (But.new (o := .lst [.int 1, .int (-1)]) nq2)).trans (But.flow (o := .lst xs3))
    have e4 : upd (upd G3 q2 (.lst [.int 1, .int (-1)])) p (.lst xs3) q2 = some (.lst [.int 1, .int (-1)]) := (upd_ne qp2).trans upd_same
    obtain ⟨i, rfl⟩ : ∃ i : Nat, z3 = i := ⟨z3.toNat, by omega⟩
    have hi : i < 2 := by omega
    match i, hi with
    | 0, _ => exact ⟨q2, _, _, _, rfl, rfl, SqL.of e4, atI_nat (v := .int 1) rfl, _, _, rfl, rfl, .inr ⟨by decide, by decide⟩, go _ _ (by omega) (by omega) ⟨l, f4⟩ b4⟩
    | 1, _ => exact ⟨q2, _, _, _, rfl, rfl, SqL.of e4, atI_nat (v := .int (-1)) rfl, _, _, rfl, rfl, .inr ⟨by decide, by decide⟩, go _ _ (by omega) (by omega) ⟨l, f4⟩ b4⟩
end
end K1P

set_option Elab.async false
set_option linter.all false
set_option maxRecDepth 100000
set_option maxHeartbeats 4000000
/-! Monomials and names drawn. -/
namespace K1P
open PySem L2 K1D
open K0 (FlowAt FlowL spDraw row)
def StrOks (ns : List Str) : Prop := ∀ x ∈ ns, PyData.strOk x = true
theorem flow_ne_str {H : Hp} {p l : Addr} {ns : List Str} (f : FlowAt H p) (h : H l = some (.lst (ns.map V.str))) : l ≠ p := fun z => by
  obtain ⟨_, _, _, _, _, _, _, hp, _⟩ := f
  rw [z, hp] at h
  cases ns with
  | nil => cases h
  | cons x xs => cases h
theorem lay_mon {ms : Mon} (h : ∀ x ∈ ms, PyData.strOk x.1 = true) : (monK ms).data.canLay0 = true := by
  show PyData.canLay0 (.tuple (NestedKey.datas (ms.map pairM))) = true
  simp only [PyData.canLay0]
  refine lay_keys fun k hk => ?_
  obtain ⟨x, hx, rfl⟩ := List.mem_map.mp hk
  show PyData.canLay0 (.tuple [.str x.1, .int x.2]) = true
  simp only [PyData.canLay0, PyData.canLayAll0, h x hx, Bool.and_self]
def spMon (K : PySem.W.Frag) : Sp := fun vs H Q _ => ∃ (p l : Addr) (g : Int) (ns : List Str), vs = [.ref p, .ref l, .int g] ∧ FlowAt H p ∧ H l = some (.lst (ns.map V.str)) ∧ g.natAbs < 2 ^ 100 ∧ ns.length ≤ 1000 ∧ StrOks ns ∧
  ∀ (ms : Mon) (r : Addr) (G : Hp), FlowAt G p → But p H G → KeyV K G (monK ms) (.ref r) → ms.length ≤ ns.length → (monK ms).data.canLay0 = true → Q (.ref r) G
section
variable {P : Program} {w : World} {K : PySem.W.Frag} {mg : Str → Option Value} {base : Heap} {fD : Addr}
theorem scMon : FnScope ["flow", "names", "greatest", "found", "name", "exponent"] ["flow", "names", "greatest"] (defScope sMon) := ⟨rfl, rfl, rfl, by decide +kernel, rfl, by decide +kernel, by decide +kernel⟩
theorem ok_mon {f : Addr} {fd fdD : FuncData} (F : Fun K "_law_monomial" "_law_monomial" sMon f fd) (T : DrawTxt K mg fD) (tup : mg "tuple" = none) (GD : FnOk P w K mg base CX0 2 fD fdD ["flow", "many"] spDraw) (bD : Binds K fdD ["flow", "many"] []) : FnOk P w K mg base CX0 3 f fd ["flow", "names", "greatest"] (spMon K) := by
  refine F.ok scMon (fun vs H Q E h => ?_) (fun cdv A outer s H vs Q E hr h => ?_)
  · obtain ⟨p, l, g, ns, rfl, _⟩ := h
    rfl
  · obtain ⟨p, l, g, ns, rfl, hf, hl, hg, nl, ok, go⟩ := h
    refine ⟨_, pss_cons (ps_set (i := 3) scMon.nd rfl (Or.inl rfl) (pe_lst pa_nil))
      (pss_cons (ps_for PassesOwn.never rfl (pi_list (pv 1)) (pg_name (i := 4) scMon.nd rfl (Or.inl rfl))
        (pss_cons (ps_set (i := 5) scMon.nd rfl (Or.inl rfl) (pe_ix ix_list (pe_lst (pa_cons pe_int (pa_cons pe_int (pa_cons pe_int (pa_cons (pe_op op_add pe_int (pe_call GD hr rfl T.gD T.kD bD .nil pass0 (pa_cons (pv 0) (pa_cons (pv 2) pa_nil)))) pa_nil))))) (pe_call GD hr rfl T.gD T.kD bD .nil pass0 (pa_cons (pv 0) (pa_cons pe_int pa_nil))) (fun _ _ => rfl)))
          (pss_one (ps_if (pt_cmpR op_gt (pv 5) pe_int (nomark _)) (pss_one (ps_expr (pe_bm PySem.F.plainAttrs_list PySem.F.slot_list_append PySem.F.type_list_append mt_append (pv 3) (pa_cons (pe_tup (pa_cons (pv 4) (pa_cons (pv 5) pa_nil))) pa_nil)))) pss_nil))))
      (pss_one (ps_ret (pe_tupleOf (by rfl) tup (pv 3))))), ?_⟩
    refine ⟨by show 0 ≤ sizeLine; exact Nat.zero_le _, fun q nq => ?_⟩
    have qp := flow_none hf nq
    have lp := flow_ne_str hf hl
    obtain ⟨c, hf⟩ := hf
    have qc : q ≠ c := fun z => by
      obtain ⟨_, _, _, _, _, _, _, hc, _⟩ := hf
      rw [z, hc] at nq
      cases nq
    refine ⟨_, rfl, l, rfl, ⟨_, SqL.of ((upd_ne (ne_of_none hl nq)).trans hl)⟩, for_list (K := K) (a := l) (xs := ns.map V.str) (fun (i : Nat) (σ : L2.St) (G : Hp) => ∃ u4 u5 : Option V, σ = [some (.ref p), some (.ref l), some (.int g), some (.ref q), u4, u5] ∧ FlowL G p c ∧ But p H G ∧
        ∃ (ms : Mon) (zs : List V), G q = some (.lst zs) ∧ KeyVs K G (ms.map pairM) zs ∧ ms.length ≤ i ∧ ∀ x ∈ ms, PyData.strOk x.1 = true)
      ⟨none, none, rfl, hf.up nq, But.new nq, [], [], upd_same, .nil, Nat.le_refl _, fun x hx => nomatch hx⟩ (fun i σ G _ ⟨_, _, _, _, b, _⟩ => SqL.of (b _ _ lp hl)) (fun i x σ G hx ⟨u4, u5, hσ, fG, bG, ms, zs, h1, h2, h3, h4⟩ => ?_) (fun σ G ⟨u4, u5, hσ, fG, bG, ms, zs, h1, h2, h3, h4⟩ => ?_)⟩
    · subst hσ
      rw [List.getElem?_map] at hx
      obtain ⟨y, hy, rfl⟩ := Option.map_eq_some_iff.mp hx
      have hi : i < ns.length := (List.getElem?_eq_some_iff.mp hy).1
      refine ⟨_, rfl, _, rfl, p, c, g, rfl, fG, Nat.lt_of_lt_of_le hg (Nat.pow_le_pow_right (by decide) (by decide)), fun z xs z0 z1 f2 => ?_⟩
      have b2 := bG.trans (But.flow (o := .lst xs))
      have e2 : upd G p (.lst xs) q = some (.lst zs) := (upd_ne qp).trans h1
      have k2 := KeyVs.up (But.tups (But.flow (o := .lst xs)) ⟨c, fG⟩) _ _ h2
      generalize upd G p (.lst xs) = G2 at f2 b2 e2 k2 ⊢
      refine ⟨_, _, rfl, rfl, by show 4 ≤ sizeLine; decide, fun t nt => ?_⟩
      have e3 : upd G2 t (.lst [.int 0, .int 0, .int 1, .int (1 + z)]) q = some (.lst zs) := (upd_ne (ne_of_none e2 nt)).trans e2
      have k3 := KeyVs.up (Tups.put (o := .lst [.int 0, .int 0, .int 1, .int (1 + z)]) (not_tup_none nt)) _ _ k2
      have b3 := b2.trans (But.new (o := .lst [.int 0, .int 0, .int 1, .int (1 + z)]) nt)
      have f3 := f2.up (o := .lst [.int 0, .int 0, .int 1, .int (1 + z)]) nt
      have tp := flow_none ⟨c, f2⟩ nt
      refine ⟨_, rfl, p, c, 4, rfl, f3, by decide +kernel, fun z2 xs2 y0 y1 f4 => ?_⟩
      have e4 : upd (upd G2 t (.lst [.int 0, .int 0, .int 1, .int (1 + z)])) p (.lst xs2) q = some (.lst zs) := (upd_ne qp).trans e3
      have k4 := KeyVs.up (But.tups (But.flow (o := .lst xs2)) ⟨c, f3⟩) _ _ k3
      have b4 := b3.trans (But.flow (o := .lst xs2))
      have t4 : upd (upd G2 t (.lst [.int 0, .int 0, .int 1, .int (1 + z)])) p (.lst xs2) t = some (.lst [.int 0, .int 0, .int 1, .int (1 + z)]) := (upd_ne tp).trans upd_same
      generalize upd (upd G2 t (.lst [.int 0, .int 0, .int 1, .int (1 + z)])) p (.lst xs2) = G4 at f4 b4 e4 k4 t4 ⊢
      obtain ⟨j, rfl⟩ : ∃ j : Nat, z2 = j := ⟨z2.toNat, by omega⟩
      have hj : j < 4 := by omega
      have hv : ∃ e : Int, ([.int 0, .int 0, .int 1, .int (1 + z)] : List V)[j]? = some (.int e) := by
        match j, hj with
        | 0, _ => exact ⟨0, rfl⟩
        | 1, _ => exact ⟨0, rfl⟩
        | 2, _ => exact ⟨1, rfl⟩
        | 3, _ => exact ⟨1 + z, rfl⟩
      obtain ⟨e, he⟩ := hv
      refine ⟨t, _, _, _, rfl, rfl, SqL.of t4, atI_nat he, ?_⟩
      refine ⟨_, rfl, _, _, rfl, rfl, _, rfl, ite2 (fun _ => ?_) (fun _ => ⟨_, _, rfl, f4, b4, ms, zs, e4, k4, by omega, h4⟩)⟩
      refine ⟨_, rfl, .inl ⟨rfl, _, SqL.of e4⟩, _, rfl, _, rfl, by show 2 ≤ sizeLine; decide, fun r nr => ?_⟩
      have kr : KeyV K (upd G4 r (.tup [.str y, .int e])) (pairM (y, e)) (.ref r) := .tup upd_same (.cons (.str y) (.cons (.int e) .nil))
      have e5 : upd G4 r (.tup [.str y, .int e]) q = some (.lst zs) := (upd_ne (ne_of_none e4 nr)).trans e4
      have k5 := KeyVs.up (Tups.put (o := .tup [.str y, .int e]) (not_tup_none nr)) _ _ k4
      have b5 := b4.trans (But.new (o := .tup [.str y, .int e]) nr)
      have f5 := f4.up (o := .tup [.str y, .int e]) nr
      generalize upd G4 r (.tup [.str y, .int e]) = G5 at f5 b5 e5 k5 kr ⊢
      have lz := keyVs_len k5
      rw [List.length_map] at lz
      refine ⟨q, zs, .ref r, rfl, rfl, e5, by rw [sizeLine_eq]; omega, _, _, rfl, f5.set qp qc, b5.set nq, ms ++ [(y, e)], zs ++ [.ref r], upd_same, ?_, by rw [List.length_append]; show ms.length + 1 ≤ i + 1; omega, fun x hx => ?_⟩
      · rw [List.map_append]
        exact KeyVs.up (Tups.put fun xs q => by
          rcases q with q | ⟨o, q⟩
          · rw [e5] at q; cases q
          · rw [e5] at q; cases q) _ _ (keyVs_snoc k5 kr)
      · rcases List.mem_append.mp hx with hx | hx
        · exact h4 x hx
        · rw [List.mem_singleton] at hx
          rw [hx]
          exact ok y (List.mem_of_getElem? hy)
    · subst hσ
      refine ⟨_, rfl, .inl ⟨q, zs, rfl, SqL.of h1, fun r nr => ?_⟩⟩
      refine go ms r _ ⟨c, fG.up nr⟩ (bG.trans (But.new nr)) (.tup upd_same (KeyVs.up (Tups.put (not_tup_none nr)) _ _ h2)) ?_ (lay_mon h4)
      rw [List.length_map] at h3
      exact h3
end
end K1P

set_option Elab.async false
set_option linter.all false
set_option maxRecDepth 100000
set_option maxHeartbeats 4000000
/-! The names drawn. -/
namespace K1P
open PySem L2 K1D
open K0 (FlowAt FlowL spDraw row)
def NmOk (x : Str) : Prop := x.length ≤ 6 ∧ PyData.strOk x = true
theorem strOk_iff (x : Str) : PyData.strOk x = true ↔ ∀ c ∈ x.cps.toList, c < 0x110000 := by
  unfold PyData.strOk
  rw [← Array.all_toList, List.all_eq_true]
  exact ⟨fun h c hc => of_decide_eq_true (h c hc), fun h c hc => decide_eq_true (h c hc)⟩
theorem strOk_app {x y : Str} (h : PyData.strOk x = true) (g : PyData.strOk y = true) : PyData.strOk (x ++ y) = true := by
  rw [strOk_iff] at *
  intro c hc
  have e : (x ++ y).cps.toList = x.cps.toList ++ y.cps.toList := Array.toList_append
  rw [e] at hc
  exact (List.mem_append.mp hc).elim (h c) (g c)
theorem strOk_cut {x : Str} (h : PyData.strOk x = true) (lo hi : Option Int) : PyData.strOk (cutS x lo hi) = true := by
  rw [strOk_iff] at *
  intro c hc
  unfold cutS at hc
  exact h c (List.mem_of_mem_drop (List.mem_of_mem_take (by simpa using hc)))
theorem cut2 (x : Str) (h : x.length ≤ 6) : (cutS x (some 2) none).length ≤ 4 := by
  unfold cutS
  show (List.toArray _).size ≤ 4
  rw [List.size_toArray, List.length_take, List.length_drop, Array.length_toList]
  have h' : x.cps.size ≤ 6 := h
  have e : HT.sIx x.length 0 (some 2) = min 2 x.length := by
    unfold HT.sIx
    simp
  rw [e]
  show min _ (x.cps.size - min 2 x.cps.size) ≤ 4
  omega
theorem join_empty : ∀ {ys : List Str}, (∀ y ∈ ys, y.length = 1 ∧ PyData.strOk y = true) → (Str.join Str.empty ys).length = ys.length ∧ PyData.strOk (Str.join Str.empty ys) = true
  | [], _ => ⟨rfl, by decide +kernel⟩
  | [x], h => h x (List.mem_cons_self ..)
  | x :: y :: r, h => by
    have ih := join_empty (ys := y :: r) fun z hz => h z (List.mem_cons_of_mem _ hz)
    have hx := h x (List.mem_cons_self ..)
    have e : Str.join Str.empty (x :: y :: r) = x ++ Str.empty ++ Str.join Str.empty (y :: r) := rfl
    rw [e]
    refine ⟨?_, strOk_app (strOk_app hx.2 (by decide +kernel)) ih.2⟩
    rw [strLen_append, strLen_append, ih.1, hx.1]
    show 1 + 0 + (r.length + 1) = r.length + 1 + 1
    omega
theorem char_at {z : Str} {j : Nat} (h : j < z.cps.toList.length) (ok : PyData.strOk z = true) : ∃ c, z.cps.toList[j]? = some c ∧ PyData.strOk ⟨#[c]⟩ = true := by
  refine ⟨z.cps.toList[j], List.getElem?_eq_getElem h, ?_⟩
  rw [strOk_iff]
  intro c hc
  have : c = z.cps.toList[j] := by simpa using hc
  rw [this]
  exact (strOk_iff z).mp ok _ (List.getElem_mem h)
theorem len7 : ("xytXYWq" : Str).cps.toList.length = 7 := by decide +kernel
theorem len26 : ("abcdefghijklmnopqrstuvwxyz" : Str).cps.toList.length = 26 := by decide +kernel
def spNames : Sp := fun vs H Q _ => ∃ p : Addr, vs = [.ref p] ∧ FlowAt H p ∧ ∀ (l : Addr) (ns : List Str) (G : Hp), FlowAt G p → But p H G → G l = some (.lst (ns.map V.str)) → ns.length ≤ 4 → StrOks ns → Q (.ref l) G
structure NamesTxt (K : PySem.W.Frag) (mg : Str → Option Value) (fD fR : Addr) : Prop where
  gD : mg "_law_draw" = some (.ref fD)
  kD : PySem.W.keepIn K (.ref fD) = true
  gR : mg "_law_rising" = some (.ref fR)
  kR : PySem.W.keepIn K (.ref fR) = true
  range : mg "range" = none
section
variable {P : Program} {w : World} {K : PySem.W.Frag} {mg : Str → Option Value} {base : Heap} {fD fR : Addr}
theorem scNames : FnScope ["flow", "found", "k", "letter", "word", "i"] ["flow"] (defScope sNames) := ⟨rfl, rfl, rfl, by decide +kernel, rfl, by decide +kernel, by decide +kernel⟩
theorem texts_of {H : Hp} : ∀ {ks : List NestedKey} {zs : List V}, KeyVs K H ks zs → (∀ k ∈ ks, ∃ x, k = .text x ∧ PyData.strOk x = true) → ∃ ns : List Str, zs = ns.map V.str ∧ StrOks ns ∧ ns.length = ks.length
  | [], _, h, _ => by
    cases h
    exact ⟨[], rfl, fun x hx => (nomatch hx), rfl⟩
  | k :: ks, _, h, g => by
    cases h with
    | cons h1 h2 =>
      obtain ⟨x, rfl, ox⟩ := g k (List.mem_cons_self ..)
      cases h1
      obtain ⟨ns, e, o, l⟩ := texts_of h2 fun j hj => g j (List.mem_cons_of_mem _ hj)
      refine ⟨x :: ns, by rw [e]; rfl, fun y hy => ?_, by rw [List.length_cons, List.length_cons, l]⟩
      rcases List.mem_cons.mp hy with q | q
      · rw [q]; exact ox
      · exact o y q
theorem keyVs_texts {H : Hp} : ∀ ns : List Str, KeyVs K H (ns.map NestedKey.text) (ns.map V.str)
  | [] => .nil
  | x :: ns => .cons (.str x) (keyVs_texts ns)
theorem ok_names {f : Addr} {fd fdD fdR : FuncData} (F : Fun K "_law_names" "_law_names" sNames f fd) (T : NamesTxt K mg fD fR) (GD : FnOk P w K mg base CX0 2 fD fdD ["flow", "many"] spDraw) (bD : Binds K fdD ["flow", "many"] [])
    (GR : FnOk P w K mg base CX0 1 fR fdR ["things"] (spRise K)) (bR : Binds K fdR ["things"] []) : FnOk P w K mg base CX0 3 f fd ["flow"] spNames := by
  refine F.ok scNames (fun vs H Q E h => ?_) (fun cdv A outer s H vs Q E hr h => ?_)
  · obtain ⟨p, rfl, _⟩ := h
    rfl
  · obtain ⟨p, rfl, hf, go⟩ := h
    have hr1 : Room 1 _ := hr.mono (by decide)
    refine ⟨_, pss_cons (ps_set (i := 1) scNames.nd rfl (Or.inl rfl) (pe_lst pa_nil))
      (pss_cons (ps_for PassesOwn.never rfl (pi_range1 (by rfl) T.range (pa_cons (pe_op op_add pe_int (pe_call GD hr rfl T.gD T.kD bD .nil pass0 (pa_cons (pv 0) (pa_cons pe_int pa_nil)))) pa_nil)) (pg_name (i := 2) scNames.nd rfl (Or.inl rfl))
        (pss_cons (ps_set (i := 3) scNames.nd rfl (Or.inl rfl) (pe_ix ix_str pe_str (pe_call GD hr rfl T.gD T.kD bD .nil pass0 (pa_cons (pv 0) (pa_cons pe_int pa_nil))) (fun _ _ => rfl)))
        (pss_cons (ps_set (i := 4) scNames.nd rfl (Or.inl rfl) (pe_join pe_str (pe_lc (own := [("i", 5)]) (g := gName 5) (te := tOp rIxS (tC (.str "abcdefghijklmnopqrstuvwxyz")) (tCall spDraw [] E0 (tCons (tVar 0) (tCons (tC (.int 26)) tNil)))) rfl scNames.nd
            (pi_range1 (by rfl) T.range (pa_cons (pe_op op_add pe_int (pe_call GD hr rfl T.gD T.kD bD .nil pass0 (pa_cons (pv 0) (pa_cons pe_int pa_nil)))) pa_nil))
            (blkOk_by (own := [("i", 5)]) (N := ["flow", "found", "k", "letter", "word", "i"]) (sc := defScope sNames) (by decide +kernel)) (fun _ _ _ _ _ => pg_name (i := 5) scNames.nd rfl (Or.inl rfl)) (fun _ _ _ _ _ => pts_nil)
            (fun _ _ _ _ _ => pe_ix ix_str pe_str (pe_call GD hr (by rfl) T.gD T.kD bD .nil pass0 (pa_cons (pv 0) (pa_cons pe_int pa_nil))) (fun _ _ => rfl)))))
        (pss_cons (ps_if (PW.pt (pw_and (pt_truth (pv 1) (fun _ => rfl)) (pw_and1 (pt_cmpR op_eq (pe_call GD hr rfl T.gD T.kD bD .nil pass0 (pa_cons (pv 0) (pa_cons pe_int pa_nil))) pe_int (nomark _)))))
            (pss_one (ps_set (i := 4) scNames.nd rfl (Or.inl rfl) (pe_slice sl_str (pe_ix ix_list (pv 1) (pe_un un_neg pe_int) (fun _ _ => rfl)) (po_some pe_int) po_none))) pss_nil)
        (pss_one (ps_expr (pe_bm PySem.F.plainAttrs_list PySem.F.slot_list_append PySem.F.type_list_append mt_append (pv 1) (pa_cons (pe_op op_add_str (pe_op op_add_str (pv 3) pe_str) (pv 4)) pa_nil))))))))
      (pss_one (ps_ret (pe_call GR hr1 rfl T.gR T.kR bR .nil pass0 (pa_cons (pv 1) pa_nil))))), ?_⟩
    refine ⟨by show 0 ≤ sizeLine; exact Nat.zero_le _, fun q nq => ?_⟩
    have qp := flow_none hf nq
    obtain ⟨c, hf⟩ := hf
    have qc : q ≠ c := fun z => by
      obtain ⟨_, _, _, _, _, _, _, hc, _⟩ := hf
      rw [z, hc] at nq
      cases nq
    have f1 := hf.up (o := .lst []) nq
    have b1 : But p H (upd H q (.lst [])) := But.new nq
    have e1 : upd H q (.lst []) q = some (.lst []) := upd_same
    generalize upd H q (.lst []) = G1 at f1 b1 e1 ⊢
    refine ⟨_, rfl, p, c, 4, rfl, f1, by decide +kernel, fun z xs z0 z1 f2 => ?_⟩
    have b2 := b1.trans (But.flow (o := .lst xs))
    have e2 : upd G1 p (.lst xs) q = some (.lst []) := (upd_ne qp).trans e1
    generalize upd G1 p (.lst xs) = G2 at f2 b2 e2 ⊢
    refine ⟨_, _, rfl, rfl, _, rfl, by omega, by omega, for_range (lo := 0) (n := (1 + z).toNat) (fun (i : Nat) (σ : L2.St) (G : Hp) => ∃ u2 u3 u4 u5 : Option V, σ = [some (.ref p), some (.ref q), u2, u3, u4, u5] ∧ FlowL G p c ∧ But p H G ∧ ∃ ns : List Str, G q = some (.lst (ns.map V.str)) ∧ ns.length ≤ i ∧ ∀ x ∈ ns, NmOk x)
      ⟨none, none, none, none, rfl, f2, b2, [], e2, Nat.le_refl _, fun x hx => nomatch hx⟩ (fun i σ G hi ⟨u2, u3, u4, u5, hσ, fG, bG, ns, h1, h2, h3⟩ => ?_) (fun σ G ⟨u2, u3, u4, u5, hσ, fG, bG, ns, h1, h2, h3⟩ => ?_)⟩
    · subst hσ
      refine ⟨_, rfl, p, c, 7, rfl, fG, by decide +kernel, fun z2 xs2 y0 y1 f3 => ?_⟩
      have b3 := bG.trans (But.flow (o := .lst xs2))
      have e3 : upd G p (.lst xs2) q = some (.lst (ns.map V.str)) := (upd_ne qp).trans h1
      generalize upd G p (.lst xs2) = G3 at f3 b3 e3 ⊢
      obtain ⟨j2, rfl⟩ : ∃ j : Nat, z2 = j := ⟨z2.toNat, by omega⟩
      obtain ⟨c1, hc1, oc1⟩ := char_at (z := "xytXYWq") (j := j2) (by rw [len7]; omega) (by decide +kernel)
      refine ⟨_, _, c1, rfl, rfl, by decide +kernel, atI_nat hc1, ?_⟩
      refine ⟨⟨_, rfl⟩, _, rfl, p, c, 4, rfl, f3, by decide +kernel, fun z4 xs4 w0 w1 f4 => ?_⟩
      have b4 := b3.trans (But.flow (o := .lst xs4))
      have e4 : upd G3 p (.lst xs4) q = some (.lst (ns.map V.str)) := (upd_ne qp).trans e3
      generalize upd G3 p (.lst xs4) = G4 at f4 b4 e4 ⊢
      refine ⟨_, _, rfl, rfl, _, rfl, by omega, by omega, fun L nL => ?_⟩
      have Lp := flow_none ⟨c, f4⟩ nL
      have Lc : L ≠ c := fun z => by
        obtain ⟨_, _, _, _, _, _, _, hc, _⟩ := f4
        rw [z, hc] at nL
        cases nL
      have Lq : L ≠ q := fun z => by rw [z, e4] at nL; cases nL
      have HL := but_none b4 ⟨c, f4⟩ nL
      refine lc_range (lo := 0) (n := (1 + z4).toNat) (fun (j : Nat) (G : Hp) => FlowL G p c ∧ But p H G ∧ G q = some (.lst (ns.map V.str)) ∧ ∃ ys : List Str, G L = some (.lst (ys.map V.str)) ∧ ys.length = j ∧ ∀ y ∈ ys, y.length = 1 ∧ PyData.strOk y = true)
        ⟨f4.up nL, b4.trans (But.new nL), (upd_ne (Ne.symm Lq)).trans e4, [], upd_same, rfl, fun x hx => nomatch hx⟩ (fun j G hj ⟨fG, bG, hq, ys, g1, g2, g3⟩ => ?_) (fun G ⟨fG, bG, hq, ys, g1, g2, g3⟩ => ?_)
      · refine ⟨rfl, _, rfl, p, c, 26, rfl, fG, by decide +kernel, fun z5 xs5 v0 v1 f5 => ?_⟩
        have b5 := bG.trans (But.flow (o := .lst xs5))
        have e5 : upd G p (.lst xs5) q = some (.lst (ns.map V.str)) := (upd_ne qp).trans hq
        have l5 : upd G p (.lst xs5) L = some (.lst (ys.map V.str)) := (upd_ne Lp).trans g1
        generalize upd G p (.lst xs5) = G5 at f5 b5 e5 l5 ⊢
        obtain ⟨j5, rfl⟩ : ∃ j : Nat, z5 = j := ⟨z5.toNat, by omega⟩
        obtain ⟨c5, hc5, oc5⟩ := char_at (z := "abcdefghijklmnopqrstuvwxyz") (j := j5) (by rw [len26]; omega) (by decide +kernel)
        refine ⟨_, _, c5, rfl, rfl, by decide +kernel, atI_nat hc5, ys.map V.str, l5, by rw [List.length_map, sizeLine_eq]; omega, f5.set Lp Lc, b5.set HL, (upd_ne (Ne.symm Lq)).trans e5, ys ++ [⟨#[c5]⟩], ?_, by rw [List.length_append, g2]; rfl, fun y hy => ?_⟩
        · rw [upd_same, List.map_append]
          rfl
        · rcases List.mem_append.mp hy with hy | hy
          · exact g3 y hy
          · rw [List.mem_singleton.mp hy]
            exact ⟨rfl, oc5⟩
      · refine ⟨_, L, ys, rfl, rfl, .inl (SqL.of g1), ?_, ?_⟩
        · have : (ys.map (·.length)).sum = ys.length := by
            have h1 : ∀ l : List Str, (∀ y ∈ l, y.length = 1 ∧ PyData.strOk y = true) → (l.map (·.length)).sum = l.length := by
              intro l
              induction l with
              | nil => exact fun _ => rfl
              | cons x l ih =>
                intro h
                rw [List.map_cons, List.sum_cons, ih fun y hy => h y (List.mem_cons_of_mem _ hy), (h x (List.mem_cons_self ..)).1, List.length_cons]
                omega
            exact h1 ys g3
          rw [this, g2]
          show (1 + z4).toNat + (1 + z4).toNat * 0 ≤ _
          omega
        · rw [TL.join_eq]
          obtain ⟨w1, w2⟩ := join_empty g3
          have w3 : (Str.join Str.empty ys).length ≤ 4 := by omega
          refine (?_ : gName 4 (V.str (Str.join Str.empty ys)) _ G _)
          generalize Str.join Str.empty ys = W at w2 w3 ⊢
          clear w1 g1 g2 g3 ys
          refine ⟨_, rfl, !(ns.map V.str).isEmpty, .inl ⟨_, SqL.of hq, rfl⟩, ?_⟩
          have nine : (⟨#[c1]⟩ : Str).length = 1 := rfl
          have und : ("_" : Str).length = 1 ∧ PyData.strOk ("_" : Str) = true := by decide +kernel
          cases hns : ns with
          | nil =>
            rw [← hns]
            have he : (!(ns.map V.str).isEmpty) = false := by rw [hns]; rfl
            rw [he]
            refine ifN rfl (ifN rfl ?_)
            refine ⟨_, rfl, .inl ⟨rfl, _, SqL.of hq⟩, _, rfl, _, _, rfl, rfl, by rw [nine, und.1]; decide, _, rfl, _, _, rfl, rfl, by rw [strLen_append, nine, und.1, sizeLine_eq]; omega, q, _, _, rfl, rfl, hq, by rw [List.length_map, sizeLine_eq]; omega, _, _, _, _, rfl, fG.set qp qc, bG.set nq, ns ++ [⟨#[c1]⟩ ++ "_" ++ W], ?_, by rw [List.length_append]; show ns.length + 1 ≤ i + 1; omega, fun x hx => ?_⟩
            · rw [upd_same, List.map_append]
              rfl
            · rcases List.mem_append.mp hx with hx | hx
              · exact h3 x hx
              · rw [List.mem_singleton.mp hx]
                exact ⟨by rw [strLen_append, strLen_append, nine, und.1]; omega, strOk_app (strOk_app oc1 und.2) w2⟩
          | cons n0 nr =>
            rw [← hns]
            have he : (!(ns.map V.str).isEmpty) = true := by rw [hns]; rfl
            rw [he]
            refine ifY rfl ⟨_, rfl, p, c, 2, rfl, fG, by decide +kernel, fun z6 xs6 t0 t1 f6 => ?_⟩
            have b6 := bG.trans (But.flow (o := .lst xs6))
            have e6 : upd G p (.lst xs6) q = some (.lst (ns.map V.str)) := (upd_ne qp).trans hq
            generalize upd G p (.lst xs6) = G6 at f6 b6 e6 ⊢
            refine ⟨rfl, _, rfl, ite2 (fun _ => ?_) (fun _ => ?_)⟩
            · have last : ∃ y, y ∈ ns ∧ atI (ns.map V.str) (-1) = some (V.str y) := by
                have hne : ns ≠ [] := by rw [hns]; exact List.cons_ne_nil _ _
                refine ⟨ns.getLast hne, List.getLast_mem hne, ?_⟩
                have e : ns.map V.str = ns.dropLast.map V.str ++ [V.str (ns.getLast hne)] := by
                  rw [← List.map_singleton (f := V.str), ← List.map_append, List.dropLast_concat_getLast hne]
                rw [e]
                exact atI_last _ _
              obtain ⟨y, hy, hat⟩ := last
              obtain ⟨y1, y2⟩ := h3 y hy
              refine ⟨_, rfl, _, rfl, q, _, -1, _, rfl, rfl, SqL.of e6, hat, _, rfl, y, rfl, by rw [sizeLine_eq]; omega, ?_⟩
              refine (?_ : gName 4 (V.str (cutS y (some 2) none)) _ G6 _)
              have v1 := cut2 y y1
              have v2 := strOk_cut y2 (some 2) none
              generalize cutS y (some 2) none = Y at v1 v2 ⊢
              refine ⟨_, rfl, .inl ⟨rfl, _, SqL.of e6⟩, _, rfl, _, _, rfl, rfl, by rw [nine, und.1]; decide, _, rfl, _, _, rfl, rfl, by rw [strLen_append, nine, und.1, sizeLine_eq]; omega, q, _, _, rfl, rfl, e6, by rw [List.length_map, sizeLine_eq]; omega, _, _, _, _, rfl, f6.set qp qc, b6.set nq, ns ++ [⟨#[c1]⟩ ++ "_" ++ Y], ?_, by rw [List.length_append]; show ns.length + 1 ≤ i + 1; omega, fun x hx => ?_⟩
              · rw [upd_same, List.map_append]
                rfl
              · rcases List.mem_append.mp hx with hx | hx
                · exact h3 x hx
                · rw [List.mem_singleton.mp hx]
                  exact ⟨by rw [strLen_append, strLen_append, nine, und.1]; omega, strOk_app (strOk_app oc1 und.2) v2⟩
            · refine ⟨_, rfl, .inl ⟨rfl, _, SqL.of e6⟩, _, rfl, _, _, rfl, rfl, by rw [nine, und.1]; decide, _, rfl, _, _, rfl, rfl, by rw [strLen_append, nine, und.1, sizeLine_eq]; omega, q, _, _, rfl, rfl, e6, by rw [List.length_map, sizeLine_eq]; omega, _, _, _, _, rfl, f6.set qp qc, b6.set nq, ns ++ [⟨#[c1]⟩ ++ "_" ++ W], ?_, by rw [List.length_append]; show ns.length + 1 ≤ i + 1; omega, fun x hx => ?_⟩
              · rw [upd_same, List.map_append]
                rfl
              · rcases List.mem_append.mp hx with hx | hx
                · exact h3 x hx
                · rw [List.mem_singleton.mp hx]
                  exact ⟨by rw [strLen_append, strLen_append, nine, und.1]; omega, strOk_app (strOk_app oc1 und.2) w2⟩
    · subst hσ
      have sk : ∀ k ∈ ns.map NestedKey.text, ∃ x, k = .text x ∧ PyData.strOk x = true := fun k hk => by
        obtain ⟨x, hx, rfl⟩ := List.mem_map.mp hk
        exact ⟨x, rfl, (h3 x hx).2⟩
      have al : AllAl (ns.map NestedKey.text) := by
        refine ⟨fun a ha b hb => ?_, fun a ha => ?_⟩
        · obtain ⟨x, rfl, _⟩ := sk a ha
          obtain ⟨y, rfl, _⟩ := sk b hb
          show PySem.W.alike (.str x) (.str y) = true
          simp only [PySem.W.alike]
        · obtain ⟨x, rfl, hx⟩ := sk a ha
          refine ⟨(fun z => by cases z), (by show (0 : Nat) ≤ 8; decide), ?_⟩
          show PyData.canLay0 (.str x) = true
          simp only [PyData.canLay0]
          exact hx
      refine ⟨_, rfl, q, ns.map V.str, ns.map NestedKey.text, rfl, h1, keyVs_texts ns, al, by rw [List.length_map, sizeLine_eq]; omega, fun l G2 zs s2 nl hz kz => ?_⟩
      obtain ⟨ms, e, o, lm⟩ := texts_of kz fun k hk => sk k (mem_riseK hk)
      have ll := len_riseK (ns.map NestedKey.text)
      rw [List.length_map] at ll
      refine go l ms G2 ⟨c, ?_⟩ (bG.trans (But.same s2)) (by rw [← e]; exact hz) (by omega) o
      obtain ⟨ns', i', c', n', m', b', q1, q2, q3⟩ := fG
      exact ⟨ns', i', c', n', m', b', s2 _ _ q1, s2 _ _ q2, q3⟩
end
end K1P

set_option Elab.async false
set_option linter.all false
set_option maxRecDepth 100000
set_option maxHeartbeats 4000000
/-! The tables drawn. -/
namespace K1P
open PySem L2 K1D
open K0 (FlowAt FlowL spDraw row)
abbrev sTable : Stmt := top 28
structure TabI (a : Nat) (m : List NI) : Prop where
  mo : MonsI m
  la : LayI m
  sm : MonSm m
  nz : NzI m
  len : m.length ≤ a
  sz : ∀ x ∈ m, x.2.natAbs ≤ greatN.natAbs
theorem mem_putI {m : List NI} {k : NestedKey} {c : Int} {x : NI} (h : x ∈ putI m k c) : x ∈ m ∨ (x.1 = k ∧ x.2 = c) := by
  unfold putI at h
  split at h
  · obtain ⟨y, hy, e⟩ := List.mem_map.mp h
    split at e
    · rename_i q
      rw [← e]
      exact .inr ⟨q, rfl⟩
    · rw [← e]
      exact .inl hy
  · rcases List.mem_append.mp h with q | q
    · exact .inl q
    · rw [List.mem_singleton.mp q]
      exact .inr ⟨rfl, rfl⟩
theorem monK_len {a b : Mon} (h : monK a = monK b) : a.length = b.length := by
  injection h with h
  have := congrArg List.length h
  rw [List.length_map, List.length_map] at this
  exact this
theorem TabI.put {a : Nat} {m : List NI} (h : TabI a m) {k : NestedKey} {c : Int} (mk : IsMon k) (lk : k.data.canLay0 = true) (sk : ∀ ms, k = monK ms → ms.length < sizeLine) (hc : c ≠ 0) (sc : c.natAbs ≤ greatN.natAbs) : TabI (a + 1) (putI m k c) where
  mo := fun x hx => (mem_putI hx).elim (h.mo x) fun e => by rw [e.1]; exact mk
  la := fun x hx => (mem_putI hx).elim (h.la x) fun e => by rw [e.1]; exact lk
  sm := fun x hx => (mem_putI hx).elim (h.sm x) fun e => by rw [e.1]; exact sk
  nz := nz_put h.nz hc
  len := Nat.le_trans (len_put m k c) (Nat.succ_le_succ h.len)
  sz := fun x hx => (mem_putI hx).elim (h.sz x) fun e => by rw [e.2]; exact sc
theorem TabI.mono {a b : Nat} {m : List NI} (h : TabI a m) (le : a ≤ b) : TabI b m := ⟨h.mo, h.la, h.sm, h.nz, Nat.le_trans h.len le, h.sz⟩
theorem FlowAt.setD {H : Hp} {p d : Addr} {o u : HO} (f : FlowAt H p) (h : H d = some u) (n : ∀ xs, u ≠ .lst xs) : FlowAt (upd H d o) p := by
  obtain ⟨l, ns, i, c, m, b, e, h1, h2, h3⟩ := f
  refine ⟨l, ns, i, c, m, b, e, (upd_ne fun z => ?_).trans h1, (upd_ne fun z => ?_).trans h2, h3⟩
  · rw [z, h] at h1
    exact n _ (Option.some.inj h1)
  · rw [z, h] at h2
    exact n _ (Option.some.inj h2)
theorem dict_put {K : PySem.W.Frag} {w : World} {G : Hp} {D b : Addr} {t : List NI} {k : NestedKey} (c : Int) {os : List NE} (h1 : G D = some (dN w D os)) (h2 : KeysN K G os) (h3 : IntsN os t) (nd : (keysI t).Nodup) (key : KeyV K G k (.ref b)) (dk : k.depth ≤ 8) :
    DictI K w (upd G D (dN w D (putN os k b (.int c)))) D (putI t k c) := ⟨_, upd_same, (h2.put key dk).up (Tups.put (not_tup_dN h1)), ints_put h3 k b c, nodup_put nd k c⟩
def spTable (K : PySem.W.Frag) (w : World) : Sp := fun vs H Q _ => ∃ (p l d : Addr) (ns : List Str) (a : Nat) (m : List NI), vs = [.ref p, .ref l, .ref d] ∧ FlowAt H p ∧ H l = some (.lst (ns.map V.str)) ∧ ns.length ≤ 4 ∧ StrOks ns ∧ DictI K w H d m ∧ TabI a m ∧ a ≤ 100 ∧
  ∀ (d' : Addr) (m' : List NI) (G : Hp), FlowAt G p → But p H G → H d' = none → DictI K w G d' m' → TabI (a + 5) m' → Q (.ref d') G
structure TableTxt (K : PySem.W.Frag) (mg : Str → Option Value) (fD fN fM : Addr) : Prop where
  gD : mg "_law_draw" = some (.ref fD)
  kD : PySem.W.keepIn K (.ref fD) = true
  gN : mg "_law_number" = some (.ref fN)
  kN : PySem.W.keepIn K (.ref fN) = true
  gM : mg "_law_monomial" = some (.ref fM)
  kM : PySem.W.keepIn K (.ref fM) = true
  range : mg "range" = none
  list : mg "list" = none
section
variable {P : Program} {w : World} {K : PySem.W.Frag} {mg : Str → Option Value} {base : Heap} {fD fN fM : Addr}
theorem scTable : FnScope ["flow", "names", "other", "table", "monomial", "choice", "k"] ["flow", "names", "other"] (defScope sTable) := ⟨rfl, rfl, rfl, by decide +kernel, rfl, by decide +kernel, by decide +kernel⟩
theorem ok_table {f : Addr} {fd fdD fdN fdM : FuncData} (F : Fun K "_law_table" "_law_table" sTable f fd) (T : TableTxt K mg fD fN fM) (GD : FnOk P w K mg base CX0 2 fD fdD ["flow", "many"] spDraw) (bD : Binds K fdD ["flow", "many"] [])
    (GN : FnOk P w K mg base CX0 3 fN fdN ["flow"] spNumL) (bN : Binds K fdN ["flow"] []) (GM : FnOk P w K mg base CX0 3 fM fdM ["flow", "names", "greatest"] (spMon K)) (bM : Binds K fdM ["flow", "names", "greatest"] []) : FnOk P w K mg base CX0 4 f fd ["flow", "names", "other"] (spTable K w) := by
  refine F.ok scTable (fun vs H Q E h => ?_) (fun cdv A outer s H vs Q E hr h => ?_)
  · obtain ⟨p, l, d, ns, a, m, rfl, _⟩ := h
    rfl
  · obtain ⟨p, l, d, ns, a, m, rfl, hf, hl, nl, ok, hd, ta, a100, go⟩ := h
    have hr2 : Room 2 _ := hr.mono (by decide)
    refine ⟨_, pss_cons (ps_set (i := 3) scTable.nd rfl (Or.inl rfl) pe_nnew)
      (pss_cons (ps_for PassesOwn.never rfl (pi_list (pe_callTy (call_list_dN rfl) (by rfl) T.list (by decide +kernel) (pa_cons (pv 2) pa_nil))) (pg_name (i := 4) scTable.nd rfl (Or.inl rfl))
        (pss_cons (ps_set (i := 5) scTable.nd rfl (Or.inl rfl) (pe_call GD hr2 rfl T.gD T.kD bD .nil pass0 (pa_cons (pv 0) (pa_cons pe_int pa_nil))))
          (pss_one (ps_if (pt_cmpR op_gt (pv 5) pe_int (nomark _)) (pss_one (ps_nput (hu9 hr) (pv 3) (pv 4) (pe_ix ix_list (pe_lst (pa_cons (pe_nget (hu9 hr) (pv 2) (pv 4) (fun _ _ => rfl)) (pa_cons (pe_op op_sub pe_int (pe_nget (hu9 hr) (pv 2) (pv 4) (fun _ _ => rfl))) (pa_cons (pe_call GN hr rfl T.gN T.kN bN .nil pass0 (pa_cons (pv 0) pa_nil)) pa_nil))))
            (pe_op op_sub (pv 5) pe_int) (fun _ _ => rfl)) rfl)) pss_nil))))
      (pss_cons (ps_for PassesOwn.never rfl (pi_range1 (by rfl) T.range (pa_cons (pe_call GD hr2 rfl T.gD T.kD bD .nil pass0 (pa_cons (pv 0) (pa_cons pe_int pa_nil))) pa_nil)) (pg_name (i := 6) scTable.nd rfl (Or.inl rfl))
        (pss_one (ps_nput (hu9 hr) (pv 3) (pe_call GM hr rfl T.gM T.kM bM .nil pass0 (pa_cons (pv 0) (pa_cons (pv 1) (pa_cons pe_int pa_nil)))) (pe_call GN hr rfl T.gN T.kN bN .nil pass0 (pa_cons (pv 0) pa_nil)) rfl)))
      (pss_one (ps_ret (pv 3))))), ?_⟩
    obtain ⟨kvs, hd1, ks, im, nd⟩ := id hd
    have lp := flow_ne_str hf hl
    have lk := ints_len im
    refine fun D nD => ?_
    have s0 : Same H (upd H D (dN w D [])) := fun b o q => (upd_ne (ne_of_none q nD)).trans q
    have f0 := hf.up (o := dN w D []) nD
    have Dp := flow_none hf nD
    refine ⟨_, rfl, d, kvs, rfl, .inl (s0 _ _ hd1), fun L nL => ?_⟩
    have DL : D ≠ L := ne_of_none upd_same nL
    have Lp := flow_none f0 nL
    have s1 : Same H (upd (upd H D (dN w D [])) L (.lst (kvs.map fun x => V.ref x.2.1))) := fun b o q => (upd_ne (ne_of_none (s0 b o q) nL)).trans (s0 b o q)
    refine ⟨L, rfl, ⟨_, SqL.of upd_same⟩, for_list (K := K) (a := L) (xs := kvs.map fun x => V.ref x.2.1) (fun (i : Nat) (σ : L2.St) (G : Hp) => ∃ u4 u5 u6 : Option V, σ = [some (.ref p), some (.ref l), some (.ref d), some (.ref D), u4, u5, u6] ∧ FlowAt G p ∧ But p H G ∧ G L = some (.lst (kvs.map fun x => V.ref x.2.1)) ∧
        ∃ t : List NI, DictI K w G D t ∧ TabI i t)
      ⟨none, none, none, rfl, f0.up nL, But.same s1, upd_same, [], ⟨[], (upd_ne DL).trans upd_same, (fun x hx => by cases hx), rfl, List.nodup_nil⟩, ⟨(fun x hx => nomatch hx), (fun x hx => nomatch hx), (fun x hx => nomatch hx), (fun x hx => nomatch hx), Nat.le_refl _, (fun x hx => nomatch hx)⟩⟩
      (fun i σ G _ ⟨_, _, _, _, _, _, h, _⟩ => SqL.of h) (fun i x σ G hx ⟨u4, u5, u6, hσ, fG, bG, hL, t, dt, tt⟩ => ?_) (fun σ G ⟨u4, u5, u6, hσ, fG, bG, hL, t, dt, tt⟩ => ?_)⟩
    · subst hσ
      rw [List.getElem?_map] at hx
      obtain ⟨y, hy, rfl⟩ := Option.map_eq_some_iff.mp hx
      obtain ⟨c, hc, hv⟩ := ints_at im hy
      have ym := List.mem_of_getElem? hc
      obtain ⟨k3, k4⟩ := ks y (List.mem_of_getElem? hy)
      have hval : valN kvs y.1 = some (V.int c) := by
        rw [ints_val im, (valI_mem nd).mpr ym]
        rfl
      have hi : i < kvs.length := (List.getElem?_eq_some_iff.mp hy).1
      obtain ⟨fl, fG'⟩ := fG
      refine ⟨_, rfl, p, fl, 4, rfl, fG', by decide +kernel, fun z xs z0 z1 f2 => ?_⟩
      have fG : FlowAt G p := ⟨fl, fG'⟩
      have b2 : But p G (upd G p (.lst xs)) := But.flow
      have dt2 := b2.dict fG dt
      have hL2 : upd G p (.lst xs) L = some (.lst (kvs.map fun x => V.ref x.2.1)) := (upd_ne Lp).trans hL
      have bG2 := bG.trans b2
      generalize upd G p (.lst xs) = G2 at f2 dt2 hL2 bG2 ⊢
      clear b2 dt hL bG fG'
      refine ⟨_, rfl, _, _, rfl, rfl, _, rfl, ite2 (fun cz => ?_) (fun cz => ⟨_, _, _, rfl, ⟨fl, f2⟩, bG2, hL2, t, dt2, tt.mono (Nat.le_succ _)⟩)⟩
      have z0' : 0 < z := of_decide_eq_true cz
      obtain ⟨kvs2, hdG, ksG, imG, _⟩ := (bG2.dict hf hd)
      have ekv : valN kvs2 y.1 = some (V.int c) := by
        rw [ints_val imG, (valI_mem nd).mpr ym]
        rfl
      have keyG : KeyV K G2 y.1 (.ref y.2.1) := k3.up (bG2.tups hf) _ _
      refine ⟨_, rfl, _, rfl, d, y.2.1, kvs2, y.1, _, rfl, rfl, .inl hdG, ksG, keyG, k4, ekv, _, rfl, _, rfl, d, y.2.1, kvs2, y.1, _, rfl, rfl, .inl hdG, ksG, keyG, k4, ekv, _, _, rfl, rfl, ?_⟩
      refine ⟨_, rfl, p, rfl, ⟨fl, f2⟩, fun zn G3 n0 n1 f3 b3 => ⟨by show 3 ≤ sizeLine; decide, fun M nM => ?_⟩⟩
      have bG3 := bG2.trans b3
      have dt3 := b3.dict ⟨fl, f2⟩ dt2
      have hL3 := b3 _ _ Lp hL2
      have s4 : Same G3 (upd G3 M (.lst [.int c, .int (0 - c), .int zn])) := fun b o q => (upd_ne (ne_of_none q nM)).trans q
      have f4 := f3.up (o := .lst [.int c, .int (0 - c), .int zn]) nM
      have dt4 := dt3.up s4
      have hL4 := s4 _ _ hL3
      have bG4 := bG3.trans (But.same s4)
      have hM : upd G3 M (.lst [.int c, .int (0 - c), .int zn]) M = some (.lst [.int c, .int (0 - c), .int zn]) := upd_same
      generalize upd G3 M (.lst [.int c, .int (0 - c), .int zn]) = G4 at f4 dt4 hL4 bG4 hM ⊢
      obtain ⟨j, rfl⟩ : ∃ j : Nat, z = j + 1 := ⟨(z - 1).toNat, by omega⟩
      have hj : j < 3 := by omega
      have cn := ta.nz _ ym
      have cs := ta.sz _ ym
      have pick : ∃ e : Int, ([.int c, .int (0 - c), .int zn] : List V)[j]? = some (.int e) ∧ e ≠ 0 ∧ e.natAbs ≤ greatN.natAbs := by
        match j, hj with
        | 0, _ => exact ⟨c, rfl, cn, cs⟩
        | 1, _ => exact ⟨0 - c, rfl, by show 0 - c ≠ 0; have : c ≠ 0 := cn; omega, by have : c.natAbs ≤ greatN.natAbs := cs; omega⟩
        | 2, _ => exact ⟨zn, rfl, n0, n1⟩
      obtain ⟨e, he, e0, e1⟩ := pick
      have ej : ((j : Int) + 1 - 1) = (j : Int) := by omega
      obtain ⟨os, o1, o2, o3, o4⟩ := dt4
      have key4 : KeyV K G4 y.1 (.ref y.2.1) := k3.up (bG4.tups hf) _ _
      have ol : os.length < sizeLine := by
        have q1 := ints_len o3
        have q2 := tt.len
        rw [sizeLine_eq]
        have q3 := ta.len
        omega
      refine ⟨_, rfl, _, _, rfl, rfl, M, _, _, _, rfl, rfl, SqL.of hM, by rw [ej]; exact atI_nat he, _, rfl, _, rfl, D, y.2.1, os, y.1, rfl, rfl, o1, o2, ol, key4, k4, ?_⟩
      refine ⟨_, _, _, rfl, FlowAt.setD f4 o1 (fun xs q => by cases q), bG4.set nD, (upd_ne (Ne.symm DL)).trans hL4, putI t y.1 e, dict_put e o1 o2 o3 o4 key4 k4, tt.put (ta.mo _ ym) (ta.la _ ym) (ta.sm _ ym) e0 e1⟩
    · subst hσ
      have tl : TabI a t := by
        refine tt.mono ?_
        rw [List.length_map, lk]
        exact ta.len
      obtain ⟨fl, fG'⟩ := fG
      refine ⟨_, rfl, p, fl, 6, rfl, fG', by decide +kernel, fun z xs z0 z1 f2 => ?_⟩
      have fG : FlowAt G p := ⟨fl, fG'⟩
      have b2 : But p G (upd G p (.lst xs)) := But.flow
      have dt2 := b2.dict fG dt
      have bG2 := bG.trans b2
      generalize upd G p (.lst xs) = G2 at f2 dt2 bG2 ⊢
      refine ⟨_, rfl, by omega, by omega, for_range (lo := 0) (n := z.toNat) (fun (i : Nat) (σ : L2.St) (G : Hp) => ∃ u4 u5 u6 : Option V, σ = [some (.ref p), some (.ref l), some (.ref d), some (.ref D), u4, u5, u6] ∧ FlowAt G p ∧ But p H G ∧ ∃ t : List NI, DictI K w G D t ∧ TabI (a + i) t)
        ⟨_, _, _, rfl, ⟨fl, f2⟩, bG2, t, dt2, tl⟩ (fun i σ G hi ⟨u4, u5, u6, hσ, fG, bG, t, dt, tt⟩ => ?_) (fun σ G ⟨u4, u5, u6, hσ, fG, bG, t, dt, tt⟩ => ?_)⟩
      · subst hσ
        refine ⟨_, rfl, p, rfl, fG, fun zn G3 n0 n1 f3 b3 => ?_⟩
        have bG3 := bG.trans b3
        have dt3 := b3.dict fG dt
        refine ⟨_, rfl, _, rfl, _, rfl, p, l, 40, ns, rfl, f3, bG3 _ _ lp hl, by decide, by omega, ok, fun ms r G4 f4 b4 kr ml la => ?_⟩
        have bG4 := bG3.trans b4
        obtain ⟨os, o1, o2, o3, o4⟩ := b4.dict f3 dt3
        have ol : os.length < sizeLine := by
          have q1 := ints_len o3
          have q2 := tt.len
          rw [sizeLine_eq]
          omega
        have dk := Nat.le_trans (depth_mon ms) (by decide : 2 ≤ 8)
        refine ⟨D, r, os, monK ms, rfl, rfl, o1, o2, ol, kr, dk, _, _, _, rfl, FlowAt.setD f4 o1 (fun xs q => by cases q), bG4.set nD, putI t (monK ms) zn, dict_put zn o1 o2 o3 o4 kr dk, ?_⟩
        exact tt.put ⟨ms, rfl⟩ la (fun ms' e => by have := monK_len e; rw [sizeLine_eq]; omega) n0 n1
      · subst hσ
        exact ⟨_, rfl, go D t G fG bG nD dt (tt.mono (by omega))⟩
end
end K1P

set_option Elab.async false
set_option linter.all false
set_option maxRecDepth 100000
set_option maxHeartbeats 8000000
/-! The law's look at two polynomials. -/
namespace K1P
open PySem L2 K1D
open K0S (Alike spSame)
abbrev sTwo : Stmt := top 30
/-! ### alike -/
mutual
/-- no tuple of it is too long -/
def KSm : NestedKey → Prop
  | .tup ks => ks.length ≤ sizeLine ∧ KSms ks
  | _ => True
def KSms : List NestedKey → Prop
  | [] => True
  | k :: ks => KSm k ∧ KSms ks
end
mutual
theorem key_alike {K : PySem.W.Frag} {H : Hp} : ∀ (k : NestedKey) (x y : V) (n : Nat), KeyV K H k x → KeyV K H k y → k.depth ≤ n → KSm k → Alike H n x y
  | .none, _, _, n, h, g, _, _ => by cases h; cases g; exact .non n
  | .num i, _, _, n, h, g, _, _ => by cases h; cases g; exact .int n i
  | .text z, _, _, n, h, g, _, _ => by cases h; cases g; exact .str n z
  | .tup ks, _, _, 0, _, _, d, _ => absurd d (by simp [NestedKey.depth])
  | .tup ks, _, _, n + 1, h, g, d, sz => by
    simp only [KSm] at sz
    cases h with
    | tup h1 h2 =>
      cases g with
      | tup g1 g2 =>
        refine .tup h1 g1 ((keyVs_len h2).trans (keyVs_len g2).symm) (by rw [keyVs_len h2]; exact sz.1) fun i x y hx hy => keys_alike ks _ _ n h2 g2 (by simp only [NestedKey.depth] at d; omega) sz.2 i x y hx hy
theorem keys_alike {K : PySem.W.Frag} {H : Hp} : ∀ (ks : List NestedKey) (xs ys : List V) (n : Nat), KeyVs K H ks xs → KeyVs K H ks ys → NestedKey.depthAll ks ≤ n → KSms ks → ∀ (i : Nat) (x y : V), xs[i]? = some x → ys[i]? = some y → Alike H n x y
  | [], _, _, n, h, _, _, _, i, x, y, hx, _ => by cases h; simp at hx
  | k :: ks, _, _, n, h, g, d, sz, i, x, y, hx, hy => by
    simp only [KSms] at sz
    cases h with
    | cons h1 h2 =>
      cases g with
      | cons g1 g2 =>
        have d1 : k.depth ≤ n := Nat.le_trans (Nat.le_max_left _ _) d
        have d2 : NestedKey.depthAll ks ≤ n := Nat.le_trans (Nat.le_max_right _ _) d
        cases i with
        | zero =>
          simp only [List.getElem?_cons_zero, Option.some.injEq] at hx hy
          subst hx hy
          exact key_alike k _ _ n h1 g1 d1 sz.1
        | succ i =>
          simp only [List.getElem?_cons_succ] at hx hy
          exact keys_alike ks _ _ n h2 g2 d2 sz.2 i x y hx hy
end
theorem ksms_of {α : Type} (f : α → NestedKey) : ∀ {l : List α}, (∀ x ∈ l, KSm (f x)) → KSms (l.map f)
  | [], _ => by simp only [List.map_nil, KSms]
  | x :: l, h => by
    simp only [List.map_cons, KSms]
    exact ⟨h x (List.mem_cons_self ..), ksms_of f fun y hy => h y (List.mem_cons_of_mem _ hy)⟩
theorem ksm_mon {ms : Mon} (h : ms.length ≤ sizeLine) : KSm (monK ms) := by
  unfold monK
  simp only [KSm, List.length_map]
  refine ⟨h, ksms_of pairM fun x _ => ?_⟩
  unfold pairM
  simp only [KSm, KSms, and_true]
  show 2 ≤ sizeLine
  decide
theorem ksm_poly {m : List NI} (mo : MonsI m) (sm : MonSm m) (h : m.length ≤ sizeLine) : KSm (polyK m) := by
  unfold polyK
  simp only [KSm, List.length_map]
  refine ⟨h, ksms_of pairK fun x hx => ?_⟩
  obtain ⟨ms, e⟩ := mo x hx
  unfold pairK
  simp only [KSm, KSms, and_true]
  refine ⟨(by show 2 ≤ sizeLine; decide), ?_⟩
  rw [e]
  exact ksm_mon (Nat.le_of_lt (sm x hx ms e))
theorem depth_poly {m : List NI} (mo : MonsI m) : (polyK m).depth ≤ 4 := by
  have h : ∀ l : List NI, MonsI l → NestedKey.depthAll (l.map pairK) ≤ 3 := by
    intro l
    induction l with
    | nil => exact fun _ => Nat.zero_le _
    | cons x l ih =>
      intro hl
      show max (pairK x).depth (NestedKey.depthAll (l.map pairK)) ≤ 3
      refine Nat.max_le.mpr ⟨?_, ih fun y hy => hl y (List.mem_cons_of_mem _ hy)⟩
      obtain ⟨ms, e⟩ := hl x (List.mem_cons_self ..)
      have := depth_mon ms
      rw [← e] at this
      show max x.1.depth (max 0 0) + 1 ≤ 3
      omega
  have := h m mo
  show NestedKey.depthAll (m.map pairK) + 1 ≤ 4
  omega
/-- two of the same polynomial -/
theorem poly_alike {K : PySem.W.Frag} {H : Hp} {p q : Addr} {m n : List NI} (h : PolyV K H p m) (g : PolyV K H q n) (e : m = n) (sm : MonSm m) (l : m.length ≤ sizeLine) : Alike H 4 (.ref p) (.ref q) := by
  subst e
  exact key_alike _ _ _ 4 h.1 g.1 (depth_poly h.2.1) (ksm_poly h.2.1 sm l)
/-! ### the lists behind it -/
theorem monSm_keys {m : List NI} : MonSm m ↔ ∀ k ∈ keysI m, ∀ ms, k = monK ms → ms.length < sizeLine := by
  constructor
  · intro h k hk
    obtain ⟨x, hx, rfl⟩ := List.mem_map.mp hk
    exact h x hx
  · intro h x hx
    exact h x.1 (List.mem_map.mpr ⟨x, hx, rfl⟩)
theorem monSm_plus {m n : List NI} (h : MonSm m) (g : MonSm n) : MonSm (plusI m n) := monSm_keys.mpr fun k hk => (keys_plus hk).elim (monSm_keys.mp h k) (monSm_keys.mp g k)
theorem monSm_neg {n : List NI} (h : MonSm n) : MonSm (negI n) := monSm_keys.mpr (by rw [keysI_neg]; exact monSm_keys.mp h)
theorem monSm_rise {m : List NI} (h : MonSm m) : MonSm (riseI m) := fun x hx => h x (rise_mem.mp hx)
theorem monSm_nz {m : List NI} (h : MonSm m) : MonSm (nzI m) := fun x hx => h x (List.mem_filter.mp hx).1
theorem monSm_sum {m n : List NI} {s : Int} (h : MonSm m) (g : MonSm n) : MonSm (sumI m n s) := monSm_keys.mpr fun k hk => (keys_sum hk).elim (monSm_keys.mp h k) (monSm_keys.mp g k)
theorem monsI_sum {m n : List NI} {s : Int} (h : MonsI m) (g : MonsI n) : MonsI (sumI m n s) := monsI_keys.mpr fun k hk => (keys_sum hk).elim (monsI_keys.mp h k) (monsI_keys.mp g k)
theorem layI_sum {m n : List NI} {s : Int} (h : LayI m) (g : LayI n) : LayI (sumI m n s) := layI_keys.mpr fun k hk => (keys_sum hk).elim (layI_keys.mp h k) (layI_keys.mp g k)
theorem nzI_id {m : List NI} (h : NzI m) : nzI m = m := List.filter_eq_self.mpr fun x hx => by simpa using h x hx
theorem nodup_neg {n : List NI} (h : (keysI n).Nodup) : (keysI (negI n)).Nodup := by rw [keysI_neg]; exact h
theorem len_neg (n : List NI) : (negI n).length = n.length := List.length_map ..
theorem v0_mem {m : List NI} (nd : (keysI m).Nodup) {x : NI} (h : x ∈ m) : v0 m x.1 = x.2 := by
  unfold v0
  rw [(valI_mem nd).mpr h]
  rfl
/-- |v0| of a drawn table -/
theorem v0_bound {m : List NI} (nd : (keysI m).Nodup) (sz : ∀ x ∈ m, x.2.natAbs ≤ greatN.natAbs) (k : NestedKey) : (v0 m k).natAbs ≤ greatN.natAbs := by
  unfold v0
  cases q : valI m k with
  | none => exact Nat.zero_le _
  | some c => exact sz _ ((valI_mem nd).mp q)
theorem three_great : 3 * (greatN.natAbs : Int) < tooGreat := by decide +kernel
theorem fits_v0 {m : List NI} (nd : (keysI m).Nodup) (l : m.length ≤ 2000) (h : ∀ k, (v0 m k).natAbs ≤ 3 * greatN.natAbs) : Fits m := by
  refine ⟨l, fun x hx => ?_⟩
  have := h x.1
  rw [v0_mem nd hx] at this
  have t := three_great
  omega
end K1P

set_option Elab.async false
set_option linter.all false
set_option maxRecDepth 100000
set_option maxHeartbeats 8000000
/-! _law_two_right. -/
namespace K1P
open PySem L2 K1D
open K0S (Alike spSame)
structure TwoTxt (P : Program) (w : World) (K : PySem.W.Frag) (mg : Str → Option Value) (base : Heap) (fP fS fA fL fE : Addr) (dP dS dA dL dE : FuncData) : Prop where
  okP : FnOk P w K mg base CX0 2 fP dP ["table"] (spPoly K w)
  bP : Binds K dP ["table"] []
  gP : mg "_law_poly" = some (.ref fP)
  kP : PySem.W.keepIn K (.ref fP) = true
  okS : FnOk P w K mg base CX0 1 fS dS ["one", "other", "sign"] (spSumD K w)
  bS : Binds K dS ["one", "other", "sign"] []
  gS : mg "_law_sum" = some (.ref fS)
  kS : PySem.W.keepIn K (.ref fS) = true
  okA : FnOk P w K mg base CX0 3 fA dA ["p", "q"] (spSum K plusI)
  bA : Binds K dA ["p", "q"] []
  nA : KBn K dA ["p", "q"] 0 ["q", "p"] (fun _ ws => ws.reverse) (fun _ zs => zs.reverse)
  gA : mg "added" = some (.ref fA)
  kA : PySem.W.keepIn K (.ref fA) = true
  okL : FnOk P w K mg base CX0 3 fL dL ["p", "q"] (spSum K lessI)
  bL : Binds K dL ["p", "q"] []
  nL : KBn K dL ["p", "q"] 0 ["q", "p"] (fun _ ws => ws.reverse) (fun _ zs => zs.reverse)
  gL : mg "less" = some (.ref fL)
  kL : PySem.W.keepIn K (.ref fL) = true
  okE : FnOk P w K mg base CX0 5 fE dE ["actual", "due"] (spSame 4)
  bE : Binds K dE ["actual", "due"] []
  gE : mg "_law_same" = some (.ref fE)
  kE : PySem.W.keepIn K (.ref fE) = true
/-- a polynomial of at most a terms, small coefficients -/
structure Pol (m : List NI) (a : Nat) (b : Nat) : Prop where
  mo : MonsI m
  sm : MonSm m
  nd : (keysI m).Nodup
  nz : NzI m
  len : m.length ≤ a
  sz : ∀ k, (v0 m k).natAbs ≤ b * greatN.natAbs
theorem TabI.pol {a : Nat} {m : List NI} (h : TabI a m) (nd : (keysI m).Nodup) : Pol (riseI m) a 1 := ⟨mons_rise h.mo, monSm_rise h.sm, nodup_rise nd, nz_rise h.nz, by rw [len_rise]; exact h.len, fun k => by rw [v0_rise nd, Nat.one_mul]; exact v0_bound nd h.sz k⟩
theorem Pol.plus {m n : List NI} {a a' b b' : Nat} (h : Pol m a b) (g : Pol n a' b') : Pol (plusI m n) (a + a') (b + b') where
  mo := monsI_plus h.mo g.mo
  sm := monSm_plus h.sm g.sm
  nd := nodup_plusI h.nd
  nz := nz_plus h.nz
  len := Nat.le_trans (len_plusI n m) (Nat.add_le_add h.len g.len)
  sz := fun k => by
    rw [v0_plus g.nd, Nat.add_mul]
    have h1 := h.sz k
    have h2 := g.sz k
    omega
theorem Pol.rise {m : List NI} {a b : Nat} (h : Pol m a b) : Pol (riseI m) a b := ⟨mons_rise h.mo, monSm_rise h.sm, nodup_rise h.nd, nz_rise h.nz, by rw [len_rise]; exact h.len, fun k => by rw [v0_rise h.nd]; exact h.sz k⟩
theorem Pol.neg {m : List NI} {a b : Nat} (h : Pol m a b) : Pol (negI m) a b := ⟨monsI_neg h.mo, monSm_neg h.sm, nodup_neg h.nd, nz_neg h.nz, by rw [len_neg]; exact h.len, fun k => by rw [v0_neg, Int.natAbs_neg]; exact h.sz k⟩
theorem Pol.less {m n : List NI} {a a' b b' : Nat} (h : Pol m a b) (g : Pol n a' b') : Pol (lessI m n) (a + a') (b + b') := h.plus g.neg
theorem Pol.fits {m : List NI} {a b : Nat} (h : Pol m a b) (ha : a ≤ 2000) (hb : b ≤ 3) : Fits m := fits_v0 h.nd (Nat.le_trans h.len ha) fun k => Nat.le_trans (h.sz k) (Nat.mul_le_mul_right _ hb)
theorem Pol.ext {m n : List NI} {a a' b b' : Nat} (h : Pol m a b) (g : Pol n a' b') (e : ∀ k, v0 m k = v0 n k) : riseI m = riseI n := rise_ext0 h.mo g.mo h.nd g.nd h.nz g.nz e
theorem v0_less {m n : List NI} (nd : (keysI n).Nodup) (k : NestedKey) : v0 (lessI m n) k = v0 m k - v0 n k := by
  show v0 (plusI m (negI n)) k = _
  rw [v0_plus (nodup_neg nd), v0_neg]
  omega
/-- the law's own sum of two, as a polynomial -/
theorem sum_pol {m n : List NI} {a a' : Nat} {s : Int} (h : TabI a m) (g : TabI a' n) (dm : (keysI m).Nodup) (dn : (keysI n).Nodup) (hs : s = 1 ∨ s = -1) : Pol (nzI (sumI m n s)) (a + a') 2 where
  mo := mons_nzI (monsI_sum h.mo g.mo)
  sm := monSm_nz (monSm_sum h.sm g.sm)
  nd := nodup_nzI (nodup_sum dm)
  nz := nz_nzI _
  len := Nat.le_trans (List.length_filter_le _ _) (Nat.le_trans len_sum (Nat.add_le_add h.len g.len))
  sz := fun k => by
    rw [v0_nzI (nodup_sum dm), v0_sum dn]
    have h1 := v0_bound dm h.sz k
    have h2 := v0_bound dn g.sz k
    rcases hs with rfl | rfl <;> omega
theorem rise_nil : riseI [] = [] := by
  unfold riseI
  exact List.mergeSort_nil
theorem empty_of {m : List NI} {a b : Nat} (h : Pol m a b) (z : ∀ k, v0 m k = 0) : m = [] := by
  cases m with
  | nil => rfl
  | cons x r =>
    have h1 := v0_mem h.nd (List.mem_cons_self (a := x) (l := r))
    rw [z] at h1
    exact absurd h1.symm (h.nz x (List.mem_cons_self ..))
def spTwo (K : PySem.W.Frag) (w : World) : Sp := fun vs H Q _ => ∃ (d e : Addr) (m n : List NI), vs = [.ref d, .ref e] ∧ DictI K w H d m ∧ DictI K w H e n ∧ TabI 100 m ∧ TabI 100 n ∧ ∀ G, Same H G → Q (.bl true) G
section
variable {P : Program} {w : World} {K : PySem.W.Frag} {mg : Str → Option Value} {base : Heap} {fP fS fA fL fE : Addr} {dP dS dA dL dE : FuncData}
theorem scTwo : FnScope ["one", "other", "first", "second", "due"] ["one", "other"] (defScope sTwo) := ⟨rfl, rfl, rfl, by decide +kernel, rfl, by decide +kernel, by decide +kernel⟩
theorem ok_two {f : Addr} {fd : FuncData} (F : Fun K "_law_two_right" "_law_two_right" sTwo f fd) (T : TwoTxt P w K mg base fP fS fA fL fE dP dS dA dL dE) : FnOk P w K mg base CX0 6 f fd ["one", "other"] (spTwo K w) := by
  refine F.ok scTwo (fun vs H Q E h => ?_) (fun cdv A outer s H vs Q E hr h => ?_)
  · obtain ⟨d, e, m, n, rfl, _⟩ := h
    rfl
  · obtain ⟨d, e, m, n, rfl, hm, hn, tm, tn, go⟩ := h
    have h1 : Room 1 _ := hr.mono (by decide)
    have h2 : Room 2 _ := hr.mono (by decide)
    have h3 : Room 3 _ := hr.mono (by decide)
    have nm : (keysI m).Nodup := let ⟨_, _, _, _, q⟩ := hm; q
    have nn : (keysI n).Nodup := let ⟨_, _, _, _, q⟩ := hn; q
    have pm := tm.pol nm
    have pn := tn.pol nn
    have sl : (16777216 : Nat) = sizeLine := sizeLine_eq.symm
    refine ⟨_, pss_cons (ps_set (i := 2) scTwo.nd rfl (Or.inl rfl) (pe_call T.okP h2 rfl T.gP T.kP T.bP .nil pass0 (pa_cons (pv 0) pa_nil)))
      (pss_cons (ps_set (i := 3) scTwo.nd rfl (Or.inl rfl) (pe_call T.okP h2 rfl T.gP T.kP T.bP .nil pass0 (pa_cons (pv 1) pa_nil)))
      (pss_cons (ps_set (i := 4) scTwo.nd rfl (Or.inl rfl) (pe_call T.okP h2 rfl T.gP T.kP T.bP .nil pass0 (pa_cons (pe_call T.okS h1 rfl T.gS T.kS T.bS .nil pass0 (pa_cons (pv 0) (pa_cons (pv 1) (pa_cons pe_int pa_nil)))) pa_nil)))
      (pss_cons (ps_if (PW.pt (pw_or (pt_not (pt_val (pe_call T.okE hr rfl T.gE T.kE T.bE .nil pass0 (pa_cons (pe_call T.okA h3 rfl T.gA T.kA T.bA .nil pass0 (pa_cons (pv 2) (pa_cons (pv 3) pa_nil))) (pa_cons (pv 4) pa_nil)))))
          (pw_or1 (pt_not (pt_val (pe_call T.okE hr rfl T.gE T.kE T.bE .nil pass0 (pa_cons (pe_callN0 T.okA h3 rfl T.gA T.kA T.nA pass0 (pk_cons (pv 2) (pk_cons (pv 3) pk_nil))) (pa_cons (pv 4) pa_nil)))))))) (pss_one (ps_ret pe_bl)) pss_nil)
      (pss_cons (ps_if (pt_not (pt_val (pe_call T.okE hr rfl T.gE T.kE T.bE .nil pass0 (pa_cons (pe_call T.okL h3 rfl T.gL T.kL T.bL .nil pass0 (pa_cons (pv 2) (pa_cons (pv 3) pa_nil))) (pa_cons (pe_call T.okP h2 rfl T.gP T.kP T.bP .nil pass0 (pa_cons (pe_call T.okS h1 rfl T.gS T.kS T.bS .nil pass0 (pa_cons (pv 0) (pa_cons (pv 1) (pa_cons (pe_un un_neg pe_int) pa_nil)))) pa_nil)) pa_nil))))) (pss_one (ps_ret pe_bl)) pss_nil)
      (pss_cons (ps_if (pt_not (pt_val (pe_call T.okE hr rfl T.gE T.kE T.bE .nil pass0 (pa_cons (pe_callN0 T.okL h3 rfl T.gL T.kL T.nL pass0 (pk_cons (pv 2) (pk_cons (pv 3) pk_nil))) (pa_cons (pe_call T.okP h2 rfl T.gP T.kP T.bP .nil pass0 (pa_cons (pe_call T.okS h1 rfl T.gS T.kS T.bS .nil pass0 (pa_cons (pv 1) (pa_cons (pv 0) (pa_cons (pe_un un_neg pe_int) pa_nil)))) pa_nil)) pa_nil))))) (pss_one (ps_ret pe_bl)) pss_nil)
      (pss_one (ps_ret (pe_and (pe_cmpR (op_eqD hr.units) (pe_call T.okL h3 rfl T.gL T.kL T.bL .nil pass0 (pa_cons (pv 2) (pa_cons (pv 2) pa_nil))) (pe_tup pa_nil) (nomark _))
        (pe_and (pe_call T.okE hr rfl T.gE T.kE T.bE .nil pass0 (pa_cons (pe_call T.okL h3 rfl T.gL T.kL T.bL .nil pass0 (pa_cons (pv 2) (pa_cons (pe_tup pa_nil) pa_nil))) (pa_cons (pv 2) pa_nil)))
          (pe_one (pe_call T.okE hr rfl T.gE T.kE T.bE .nil pass0 (pa_cons (pe_call T.okA h3 rfl T.gA T.kA T.bA .nil pass0 (pa_cons (pe_tup pa_nil) (pa_cons (pv 2) pa_nil))) (pa_cons (pv 2) pa_nil))))))))))))), ?_⟩
    -- first, second
    refine ⟨_, rfl, d, m, rfl, hm, tm.mo, tm.la, by have := tm.len; omega, fun p1 H1 s1 q1 => ?_⟩
    rw [nzI_id tm.nz] at q1
    refine ⟨_, rfl, e, n, rfl, hn.up s1, tn.mo, tn.la, by have := tn.len; omega, fun p2 H2 s2 q2 => ?_⟩
    rw [nzI_id tn.nz] at q2
    have q1 := q1.up (same_tups s2)
    have s2 : Same H H2 := fun a o q => s2 a o (s1 a o q)
    -- due
    have ps := sum_pol tm tn nm nn (.inl rfl)
    refine ⟨_, rfl, _, rfl, d, e, 1, m, n, rfl, by decide, by decide, hm.up s2, hn.up s2, tm.mo, tn.mo, by have := tm.len; have := tn.len; omega, fun d3 H3 s3 n3 h3' => ?_⟩
    refine ⟨d3, _, rfl, h3', monsI_sum tm.mo tn.mo, layI_sum tm.la tn.la, Nat.lt_of_le_of_lt len_sum (by have := tm.len; have := tn.len; omega), fun p3 H4 s4 q3 => ?_⟩
    have s34 : Same H2 H4 := fun a o q => s4 a o (s3 a o q)
    have s4 : Same H H4 := fun a o q => s34 a o (s2 a o q)
    have q1 := q1.up (same_tups s34)
    have q2 := q2.up (same_tups s34)
    clear s34 s3 h3' n3 s1 s2
    have pp := pm.plus pn
    have pq := pn.plus pm
    have ep : riseI (plusI (riseI m) (riseI n)) = riseI (nzI (sumI m n 1)) := pp.ext ps fun k => by
      rw [v0_plus pn.nd, v0_rise nm, v0_rise nn, v0_nzI (nodup_sum nm), v0_sum nn]; omega
    have eq : riseI (plusI (riseI n) (riseI m)) = riseI (nzI (sumI m n 1)) := pq.ext ps fun k => by
      rw [v0_plus pm.nd, v0_rise nm, v0_rise nn, v0_nzI (nodup_sum nm), v0_sum nn]; omega
    have lm := pm.len
    have ln := pn.len
    -- added(first, second)
    refine ⟨_, rfl, _, rfl, p1, p2, _, _, rfl, q1, q2, pm.sm, pn.sm, by omega, pn.nz, pp.fits (by decide) (by decide), fun r5 H5 s5 q5 => ?_⟩
    refine ⟨_, rfl, _, _, rfl, poly_alike q5 (q3.up (same_tups s5)) ep pp.rise.sm (Nat.le_trans pp.rise.len (by omega)), fun H6 s6 => ⟨true, rfl, ifN rfl ?_⟩⟩
    have s56 : Same H4 H6 := fun a o q => s6 a o (s5 a o q)
    have q1 := q1.up (same_tups s56)
    have q2 := q2.up (same_tups s56)
    have q3 := q3.up (same_tups s56)
    have s6' : Same H H6 := fun a o q => s56 a o (s4 a o q)
    clear s5 s6 s56 s4 q5
    -- added(q=first, p=second)
    refine ⟨_, rfl, _, rfl, rfl, p2, p1, _, _, rfl, q2, q1, pn.sm, pm.sm, by omega, pm.nz, pq.fits (by decide) (by decide), fun r7 H7 s7 q7 => ?_⟩
    refine ⟨_, rfl, _, _, rfl, poly_alike q7 (q3.up (same_tups s7)) eq pq.rise.sm (Nat.le_trans pq.rise.len (by omega)), fun H8 s8 => ⟨true, rfl, ifN rfl ?_⟩⟩
    have s78 : Same H6 H8 := fun a o q => s8 a o (s7 a o q)
    have q1 := q1.up (same_tups s78)
    have q2 := q2.up (same_tups s78)
    have s8' : Same H H8 := fun a o q => s78 a o (s6' a o q)
    clear s7 s8 s78 s6' q7 q3
    -- less(first, second)
    have pl := pm.less pn
    have pt := sum_pol tm tn nm nn (.inr rfl)
    have el : riseI (lessI (riseI m) (riseI n)) = riseI (nzI (sumI m n (-1))) := pl.ext pt fun k => by
      rw [v0_less pn.nd, v0_rise nm, v0_rise nn, v0_nzI (nodup_sum nm), v0_sum nn]; omega
    refine ⟨_, rfl, _, rfl, p1, p2, _, _, rfl, q1, q2, pm.sm, pn.sm, by omega, pn.nz, pl.fits (by decide) (by decide), fun r9 H9 s9 q9 => ?_⟩
    have t9 : Same H H9 := fun a o q => s9 a o (s8' a o q)
    refine ⟨_, rfl, _, rfl, _, rfl, d, e, -1, m, n, rfl, by decide, by decide, hm.up t9, hn.up t9, tm.mo, tn.mo, by have := tm.len; have := tn.len; omega, fun da Ha sa na ha => ?_⟩
    refine ⟨da, _, rfl, ha, monsI_sum tm.mo tn.mo, layI_sum tm.la tn.la, Nat.lt_of_le_of_lt len_sum (by have := tm.len; have := tn.len; omega), fun pb Hb sb qb => ?_⟩
    have sab : Same H9 Hb := fun a o q => sb a o (sa a o q)
    refine ⟨_, _, rfl, poly_alike (q9.up (same_tups sab)) qb el pl.rise.sm (Nat.le_trans pl.rise.len (by omega)), fun Hc sc => ⟨true, rfl, ifN rfl ?_⟩⟩
    have s8c : Same H8 Hc := fun a o q => sc a o (sab a o (s9 a o q))
    have q1 := q1.up (same_tups s8c)
    have q2 := q2.up (same_tups s8c)
    have tc : Same H Hc := fun a o q => s8c a o (s8' a o q)
    clear s8c sc sab sb sa na ha qb q9 s9 t9 s8'
    -- less(q=first, p=second)
    have pl' := pn.less pm
    have pt' := sum_pol tn tm nn nm (.inr rfl)
    have el' : riseI (lessI (riseI n) (riseI m)) = riseI (nzI (sumI n m (-1))) := pl'.ext pt' fun k => by
      rw [v0_less pm.nd, v0_rise nm, v0_rise nn, v0_nzI (nodup_sum nn), v0_sum nm]; omega
    refine ⟨_, rfl, _, rfl, rfl, p2, p1, _, _, rfl, q2, q1, pn.sm, pm.sm, by omega, pm.nz, pl'.fits (by decide) (by decide), fun rd Hd sd qd => ?_⟩
    have td : Same H Hd := fun a o q => sd a o (tc a o q)
    refine ⟨_, rfl, _, rfl, _, rfl, e, d, -1, n, m, rfl, by decide, by decide, hn.up td, hm.up td, tn.mo, tm.mo, by have := tm.len; have := tn.len; omega, fun da Ha sa na ha => ?_⟩
    refine ⟨da, _, rfl, ha, monsI_sum tn.mo tm.mo, layI_sum tn.la tm.la, Nat.lt_of_le_of_lt len_sum (by have := tm.len; have := tn.len; omega), fun pb Hb sb qb => ?_⟩
    have sab : Same Hd Hb := fun a o q => sb a o (sa a o q)
    refine ⟨_, _, rfl, poly_alike (qd.up (same_tups sab)) qb el' pl'.rise.sm (Nat.le_trans pl'.rise.len (by omega)), fun He se => ⟨true, rfl, ifN rfl ?_⟩⟩
    have sce : Same Hc He := fun a o q => se a o (sab a o (sd a o q))
    have q1 := q1.up (same_tups sce)
    have te : Same H He := fun a o q => sce a o (tc a o q)
    clear sce se sab sb sa na ha qb qd sd td tc q2
    -- less(first, first) == ()
    have pz := pm.less pm
    have ez : lessI (riseI m) (riseI m) = [] := by
      refine empty_of pz fun k => ?_
      rw [v0_less pm.nd]; omega
    refine ⟨_, rfl, _, rfl, p1, p1, _, _, rfl, q1, q1, pm.sm, pm.sm, by omega, pm.nz, pz.fits (by decide) (by decide), fun rf Hf sf qf => ?_⟩
    rw [ez, rise_nil] at qf
    refine ⟨by show 0 ≤ sizeLine; exact Nat.zero_le _, fun ra na => ?_⟩
    have sg : Same Hf (upd Hf ra (.tup [])) := fun a o q => (upd_ne (ne_of_none q na)).trans q
    have kz : KeyV K (upd Hf ra (.tup [])) (.tup []) (.ref ra) := .tup upd_same .nil
    have q1 := (q1.up (same_tups sf)).up (same_tups sg)
    have tg : Same H (upd Hf ra (.tup [])) := fun a o q => sg a o (sf a o (te a o q))
    have kf := (qf.up (same_tups sg)).1
    generalize upd Hf ra (.tup []) = Hg at kz q1 tg kf ⊢
    refine ⟨_, _, kf.dp, kz.dp, by decide +kernel, by decide +kernel, _, rfl, ifY ((eqv_iff _ _).mpr rfl) ?_⟩
    -- less(first, ())
    have nil' : Pol [] 0 0 := ⟨(fun x hx => nomatch hx), (fun x hx => nomatch hx), List.nodup_nil, (fun x hx => nomatch hx), Nat.le_refl _, fun k => by rw [Nat.zero_mul]; exact Nat.le_refl 0⟩
    have pa := pm.less nil'
    have ea : riseI (lessI (riseI m) []) = riseI m := by
      have : riseI (lessI (riseI m) []) = riseI (riseI m) := pa.ext pm fun k => rfl
      rw [this]
      exact rise_ext0 (mons_rise tm.mo) tm.mo (nodup_rise nm) nm (nz_rise tm.nz) tm.nz fun k => v0_rise nm k
    have nilV : ∀ {G : Hp} {r : Addr}, G r = some (.tup []) → PolyV K G r [] := fun {G r} h => ⟨.tup h .nil, (fun x hx => nomatch hx), List.nodup_nil⟩
    refine ⟨_, rfl, by show 0 ≤ sizeLine; exact Nat.zero_le _, fun rb nb => ?_⟩
    have sb : Same Hg (upd Hg rb (.tup [])) := fun a o q => (upd_ne (ne_of_none q nb)).trans q
    have vb : PolyV K (upd Hg rb (.tup [])) rb [] := nilV upd_same
    have q1 := q1.up (same_tups sb)
    have tb : Same H (upd Hg rb (.tup [])) := fun a o q => sb a o (tg a o q)
    generalize upd Hg rb (.tup []) = Hb at vb q1 tb ⊢
    refine ⟨p1, rb, _, [], rfl, q1, vb, pm.sm, nil'.sm, by show _ + 0 < _; omega, nil'.nz, pa.fits (by decide) (by decide), fun rh Hh sh qh => ?_⟩
    have q1 := q1.up (same_tups sh)
    refine ⟨_, rfl, _, _, rfl, poly_alike qh q1 ea pa.rise.sm (Nat.le_trans pa.rise.len (by omega)), fun Hi si => ⟨true, rfl, ifY rfl ?_⟩⟩
    have q1 := q1.up (same_tups si)
    have ti : Same H Hi := fun a o q => si a o (sh a o (tb a o q))
    -- added((), first)
    have pc := nil'.plus pm
    have ec : riseI (plusI [] (riseI m)) = riseI m := by
      have : riseI (plusI [] (riseI m)) = riseI (riseI m) := pc.ext pm fun k => by
        rw [v0_plus pm.nd]
        show 0 + _ = _
        omega
      rw [this]
      exact rise_ext0 (mons_rise tm.mo) tm.mo (nodup_rise nm) nm (nz_rise tm.nz) tm.nz fun k => v0_rise nm k
    refine ⟨by show 0 ≤ sizeLine; exact Nat.zero_le _, fun rc nc => ⟨_, rfl, ?_⟩⟩
    have sc : Same Hi (upd Hi rc (.tup [])) := fun a o q => (upd_ne (ne_of_none q nc)).trans q
    have vc : PolyV K (upd Hi rc (.tup [])) rc [] := nilV upd_same
    have q1 := q1.up (same_tups sc)
    have tc : Same H (upd Hi rc (.tup [])) := fun a o q => sc a o (ti a o q)
    generalize upd Hi rc (.tup []) = Hc at vc q1 tc ⊢
    refine ⟨rc, p1, [], _, rfl, vc, q1, nil'.sm, pm.sm, by show 0 + _ < _; omega, pm.nz, pc.fits (by decide) (by decide), fun rj Hj sj qj => ?_⟩
    have q1 := q1.up (same_tups sj)
    exact ⟨_, rfl, _, _, rfl, poly_alike qj q1 ec pc.rise.sm (Nat.le_trans pc.rise.len (by omega)), fun Hk sk => go Hk fun a o q => sk a o (sj a o (tc a o q))⟩
end
end K1P

set_option Elab.async false
set_option linter.all false
set_option maxRecDepth 100000
set_option maxHeartbeats 8000000
/-! Too many terms, too many figures: raised, and caught by the law. -/
namespace K1P
open PySem L2 K1D
abbrev sRaised : Stmt := top 31
/-! ### the error -/
def spIni (K : PySem.W.Frag) (C : Addr) : Sp := fun vs H Q _ => ∃ (a : Addr) (y : Str), vs = [.ref a, .str y] ∧ y.length ≤ 1000 ∧ ErrC K C ∧ PySem.W.findIn K (.ref C) "word" = some none ∧ H a = some (exo a C none) ∧
  ∀ dx, H dx = none → dx ≠ a → Q .non (upd (upd H dx (exd dx [("word", .str y)])) a (exo a C (some dx)))
abbrev sTooMany : Stmt := inClass (top 2) 0
section
variable {P : Program} {w : World} {K : PySem.W.Frag} {mg : Str → Option Value} {base : Heap} {B : Addr}
theorem fitT {y : Str} (h : y.length ≤ 1000) : (Str.empty ++ ("too many " : Str) ++ y).length ≤ sizeLine := by
  have : (Str.empty ++ ("too many " : Str)).length ≤ 1000 := by decide +kernel
  rw [strLen_append, sizeLine_eq]
  omega
theorem scTooMany : FnScope ["self", "word"] ["self", "word"] (defScope sTooMany) := ⟨rfl, rfl, rfl, by decide +kernel, rfl, by decide +kernel, by decide +kernel⟩
theorem iniTooMany {f C : Addr} {fd : FuncData} (F : Fun K "__init__" "TooMany.__init__" sTooMany f fd) (T : BaseC K B) (gB : mg "FigureError" = some (.ref B)) : FnOk P w K mg base CX0 1 f fd ["self", "word"] (spIni K C) := by
  refine F.ok scTooMany (fun vs H Q E h => ?_) (fun cdv A outer s H vs Q E hr h => ?_)
  · obtain ⟨a, y, rfl, _⟩ := h
    rfl
  · obtain ⟨a, y, rfl, h, TC, no, ha, go⟩ := h
    refine ⟨_, pss_cons (ps_expr (pe_base T rfl gB (pa_cons (pv 0) (pa_cons (pe_joined (.cons pe_str (.cons (pe_fmt (pv 1)) .nil))) pa_nil)))) (pss_one (ps_field (pv 0) (pv 1))), ?_⟩
    refine ⟨_, rfl, _, rfl, by decide +kernel, _, rfl, ?_⟩
    exact .inl ⟨y, rfl, by rw [sizeLine_eq]; omega, _, rfl, fitT h, a, C, _, rfl, by show 1 ≤ 1000; decide, TC, ha, _, rfl, _, rfl, a, C, rfl, TC, no, ha, fun dx n ne => go dx n ne⟩
end
theorem heap_of {H : Hp} {a d : Addr} {o1 o2 o3 o4 : HO} (na : H a = none) (ne : d ≠ a) : upd (del (upd (upd (upd H a o1) d o2) a o3) a) d o4 = upd H d o4 := by
  funext b
  by_cases hd : b = d
  · rw [hd, upd_same, upd_same]
  · rw [upd_ne hd, upd_ne hd]
    by_cases ha : b = a
    · rw [ha, del_same, na]
    · rw [del_ne ha, upd_ne ha, upd_ne hd, upd_ne ha]
theorem okN {P : Program} {w : World} {K : PySem.W.Frag} {mg : Str → Option Value} {base : Heap} {x qual : Str} {st : Stmt} {f : Addr} {fd : FuncData} {N ps : List Str} {k : Nat} {sp : Sp} (F : Fun K x qual st f fd) (S : FnScope N ps (defScope st)) (len : ∀ vs H Q E, sp vs H Q E → vs.length = ps.length)
    (body : ∀ (cdv : Value) (A : Around) (outer : List Env) (s : Shared) (H : Hp) (vs : List V) (Q : VK) (E : XK), Room k (A.deeper (PyProof.Rows.envOfC qual (defScope st) s.heap.objs.size f cdv)) → sp vs H Q E →
      ∃ t, PSs (cxOf (L2N.CX P w) P w K mg base N qual (defScope st) f cdv A outer s H E) (defBody st) t ∧ t { nx := fun _ H' => Q .non H', rt := Q } (start N vs) H) : FnOk P w K mg base (L2N.CX P w) (k + 1) f fd ps sp := by
  obtain ⟨oc, od, kV, doc, pm, an, cdv, ct, osl, rfl, lk, hcd⟩ := F.ex
  exact fn_of lk hcd S len fun A outer s H vs Q E hr hsp => body cdv A outer s H vs Q E hr hsp
/-- what the written part says of the class -/
structure ManyTxt (P : Program) (w : World) (K : PySem.W.Frag) (mg : Str → Option Value) (base : Heap) (B C fI : Addr) (dI : FuncData) : Prop where
  gC : mg "TooMany" = some (.ref C)
  err : ErrC K C
  iC : PySem.W.findIn K (.ref C) "__init__" = some (some (.ref fI))
  tI : PySem.W.typeIn K (.ref fI) = some (.type "function")
  no : PySem.W.findIn K (.ref C) "word" = some none
  bd : Binds K dI ["self", "word"] []
  ini : FnOk P w K mg base CX0 1 fI dI ["self", "word"] (spIni K C)
  gB : mg "FigureError" = some (.ref B)
  exm : PySem.W.exmOne K (.ref C) (.ref C) = some true
  kit : PySem.W.kitOne K (.ref C) (.ref B) = some true
  ask : AskC K C
  xf : XfC K C
def Bad (m : List NI) (z : Str) : Prop := (2000 < m.length ∧ z = "terms") ∨ (m.length ≤ 2000 ∧ (∃ x ∈ m, tooGreat ≤ (x.2.natAbs : Int)) ∧ z = "figures")
/-- what is raised -/
def Raises (C : Addr) (z : Str) (H : Hp) (E : XK) : Prop := ∀ (G : Hp) (dd : Addr), Same H G → G dd = none → E (.ref C) (some dd) (upd G dd (.xd [("word", .str z)]))
section
variable {P : Program} {w : World} {K : PySem.W.Frag} {mg : Str → Option Value} {base : Heap} {B C fI : Addr} {dI : FuncData}
theorem err_read {H : Hp} {y : Str} {Q : XK} {σ : L2.St} (T : ManyTxt P w K mg base B C fI dI) (ly : y.length ≤ 1000) (go : ∀ d, H d = none → Q (.ref C) (some d) (upd H d (.xd [("word", .str y)]))) :
    tErr C (spIni K C) (tCons (tC (.str y)) tNil) σ H Q := by
  refine ⟨by show 1 ≤ 1000; decide, fun a na => ⟨a, y, rfl, ly, T.err, T.no, upd_same, fun dx nd ne => ⟨rfl, dx, _, upd_same, (upd_ne ne).trans upd_same, ?_, ?_⟩⟩⟩
  · rw [upd_ne ne] at nd
    exact nd
  · rw [heap_of na ne]
    rw [upd_ne ne] at nd
    exact go dx nd
def spCheckBad (K : PySem.W.Frag) (w : World) (C : Addr) : Sp := fun vs H _ E => ∃ (d : Addr) (m : List NI) (z : Str), vs = [.ref d] ∧ DictI K w H d m ∧ m.length < sizeLine ∧ Bad m z ∧ Raises C z H E
theorem ok_checkBad {f : Addr} {fd : FuncData} (F : Fun K "_check_limits" "_check_limits" sCheck f fd) (T : LimTxt K mg) (U : ManyTxt P w K mg base B C fI dI) : FnOk P w K mg base (L2N.CX P w) 3 f fd ["table"] (spCheckBad K w C) := by
  refine okN F scCheck (fun vs H Q E h => ?_) (fun cdv A outer s H vs Q E hr h => ?_)
  · obtain ⟨d, m, z, rfl, _⟩ := h
    rfl
  · obtain ⟨d, m, z, rfl, ⟨kvs, hd, ks, im, nd⟩, lt, bad, go⟩ := h
    obtain ⟨t1, g1⟩ := T.most
    obtain ⟨t2, g2⟩ := T.great
    refine ⟨_, pss_cons (ps_if (pt_cmpR op_gt (pe_callB call_len_dn (by rfl) T.len PySem.boot_len (pa_cons (pv 0) pa_nil)) (pe_glob (v := .int 2000) (by rfl) g1 ⟨t1, rfl⟩) (nomark _)) (pss_one (L2N.ps_raise rfl (L2N.takes_of rfl rfl rfl rfl) (pmk_err U.err U.iC U.tI U.ini hr U.bd pass0 rfl U.gC (pa_cons pe_str pa_nil)))) pss_nil)
      (pss_one (ps_if (pt_val (pe_callB (cr_any rfl) (by rfl) T.any (by decide +kernel) (pa_cons (pe_lock (pe_lc (own := [("many", 1)]) (g := gName 1) rfl scCheck.nd (pi_nvalues (pv 0))
        (blkOk_by (own := [("many", 1)]) (N := ["table", "many"]) (sc := defScope sCheck) (by decide +kernel)) (fun _ _ _ _ _ => pg_name (i := 1) scCheck.nd rfl (Or.inl rfl)) (fun _ _ _ _ _ => pts_nil)
        (te := tOp (rI0 fun i j => .bl (decide (j ≤ i))) (tCB (rAbs) (tCons (tVar 1) tNil)) (tC (.int tooGreat)))
        (fun _ _ _ _ _ => pe_cmpR op_ge (pe_callB (show CallR _ (.builtin "abs") rAbs from call_abs) (by rfl) T.abs (by decide +kernel) (pa_cons (pv 1) pa_nil)) (pe_glob (v := .int tooGreat) (by rfl) g2 ⟨t2, rfl⟩) (nomark _)))) pa_nil)))
        (pss_one (L2N.ps_raise rfl (L2N.takes_of rfl rfl rfl rfl) (pmk_err U.err U.iC U.tI U.ini hr U.bd pass0 rfl U.gC (pa_cons pe_str pa_nil)))) pss_nil)), ?_⟩
    have lk := ints_len im
    rcases bad with ⟨l, rfl⟩ | ⟨l, ex, rfl⟩
    · refine ⟨_, rfl, d, kvs, rfl, .inl hd, ks, _, _, rfl, rfl, _, rfl, ifY (decide_eq_true (by omega)) ?_⟩
      show tErr C (spIni K C) (tCons (tC (.str "terms")) tNil) _ H _
      exact err_read U (by decide +kernel) fun dd nd' => go H dd (fun _ _ q => q) nd'
    · refine ⟨_, rfl, d, kvs, rfl, .inl hd, ks, _, _, rfl, rfl, _, rfl, ifN (decide_eq_false (by omega)) ?_⟩
      refine ⟨d, _, hd, True.intro, fun od => ?_⟩
      refine ⟨_, rfl, d, od, kvs, rfl, upd_same, fun L nL => ?_⟩
      have Ld : L ≠ d := fun z => by rw [z, upd_same] at nL; cases nL
      rw [upd_ne Ld] at nL
      let bs : List Bool := m.map fun x => decide (tooGreat ≤ (if x.2 < 0 then -x.2 else x.2))
      refine blk_n (o := fun _ => .lst []) (n := kvs.length) (fun (i : Nat) (F : Hp) => Lk d od (dN w d kvs) H F ∧ F L = some (.lst ((bs.take i).map V.bl)))
        ⟨Lk.start.set Ld nL, upd_same⟩ (fun i F hi ⟨l, _⟩ => ⟨l.1, hi⟩) (fun F ⟨l, _⟩ => ⟨l.1, Nat.le_refl _⟩) (fun i F x F' hi ⟨lk', h1⟩ hy => ?_) (fun F ⟨lk', h1⟩ => ?_)
      · obtain ⟨rfl, e, he, rfl⟩ := hy
        obtain ⟨c, hc, hv⟩ := ints_at im he
        have hb : bs[i]? = some (decide (tooGreat ≤ (if c < 0 then -c else c))) := by
          show (m.map _)[i]? = _
          rw [List.getElem?_map, hc]
          rfl
        have lb : i < bs.length := (List.getElem?_eq_some_iff.mp hb).1
        have ll : ((bs.take i).map V.bl).length < sizeLine := by
          rw [List.length_map, List.length_take, sizeLine_eq]
          omega
        refine ⟨rfl, _, rfl, c, by rw [hv], _, _, rfl, rfl, _, h1, ll, lk'.set Ld nL, ?_⟩
        rw [upd_same, List.take_succ_eq_append_getElem lb, List.map_append, (List.getElem?_eq_some_iff.mp hb).2]
        rfl
      · have lb : bs.length = kvs.length := by
          show (m.map _).length = _
          rw [List.length_map]
          exact lk.symm
        rw [← lb, List.take_length] at h1
        refine ⟨lk'.1, L, bs, rfl, SqL.of ((upd_ne Ld).trans h1), ?_⟩
        have tr : bs.any id = true := by
          obtain ⟨x, hx, gx⟩ := ex
          refine List.any_eq_true.mpr ⟨_, List.mem_map.mpr ⟨x, hx, rfl⟩, ?_⟩
          refine decide_eq_true ?_
          split <;> omega
        rw [tr]
        refine ⟨_, rfl, ifY rfl ?_⟩
        show tErr C (spIni K C) (tCons (tC (.str "figures")) tNil) _ _ _
        exact err_read U (by decide +kernel) fun dd nd' => go _ dd (lk'.done hd) nd'
def spOfBad (K : PySem.W.Frag) (w : World) (C : Addr) : Sp := fun vs H _ E => ∃ (d : Addr) (m : List NI) (z : Str), vs = [.ref d] ∧ DictI K w H d m ∧ m.length < sizeLine ∧ Bad m z ∧ Raises C z H E
theorem ok_ofBad {f fC : Addr} {fd fdC : FuncData} (F : Fun K "_of_monomials" "_of_monomials" sOf f fd) (T : LimTxt K mg) (GC : FnOk P w K mg base (L2N.CX P w) 3 fC fdC ["table"] (spCheckBad K w C)) (bC : Binds K fdC ["table"] []) (gC : mg "_check_limits" = some (.ref fC)) (kC : PySem.W.keepIn K (.ref fC) = true) :
    FnOk P w K mg base (L2N.CX P w) 4 f fd ["table"] (spOfBad K w C) := by
  refine okN F scOf (fun vs H Q E h => ?_) (fun cdv A outer s H vs Q E hr h => ?_)
  · obtain ⟨d, m, z, rfl, _⟩ := h
    rfl
  · obtain ⟨d, m, z, rfl, hd, lt, bad, go⟩ := h
    refine ⟨_, pss_cons (ps_expr (pe_callS GC hr rfl gC kC bC (fun σ => L2N.passAt (L2N.takes_of rfl rfl rfl rfl) σ) (pa_cons (pv 0) pa_nil)))
      (pss_one (ps_ret (pe_tupleOf (by rfl) T.tuple (pe_callB (cr_sortN rfl hr.units) (by rfl) T.sorted (by decide +kernel) (pa_cons (pe_nitemsV (pv 0)) pa_nil))))), ?_⟩
    exact ⟨_, rfl, d, m, z, rfl, hd, lt, bad, go⟩
theorem raises_up {z : Str} {H G : Hp} {E : XK} (h : Raises C z H E) (s : Same H G) : Raises C z G E := fun F dd t n => h F dd (fun a o q => t a o (s a o q)) n
/-- a sum that is too great -/
def spBad (K : PySem.W.Frag) (C : Addr) (op : List NI → List NI → List NI) : Sp := fun vs H _ E => ∃ (p q : Addr) (m n : List NI) (z : Str), vs = [.ref p, .ref q] ∧ PolyV K H p m ∧ PolyV K H q n ∧ MonSm m ∧ MonSm n ∧ m.length + n.length < sizeLine ∧ (∀ x ∈ n, x.2 ≠ 0) ∧ Bad (op m n) z ∧ Raises C z H E
variable {fB fP fM fO fO2 : Addr} {dB dP dM dO dO2 : FuncData}
theorem ok_addedBad {f : Addr} {fd : FuncData} (F : Fun K "added" "added" sAdded f fd) (T : AddTxt P w K mg base fB fP fM fO dB dP dM dO) (GO : FnOk P w K mg base (L2N.CX P w) 4 fO dO ["table"] (spOfBad K w C)) : FnOk P w K mg base (L2N.CX P w) 5 f fd ["p", "q"] (spBad K C plusI) := by
  refine okN F scAdded (fun vs H Q E h => ?_) (fun cdv A outer s H vs Q E hr h => ?_)
  · obtain ⟨p, q, m, n, z, rfl, _⟩ := h
    rfl
  · obtain ⟨p, q, m, n, z, rfl, hp, hq, sm, sn, hl, nz, bad, go⟩ := h
    have h1 : Room 1 _ := hr.mono (by decide)
    refine ⟨_, pss_one (ps_ret (pe_callS GO hr rfl T.gO T.kO T.bO (fun σ => L2N.passAt (L2N.takes_of rfl rfl rfl rfl) σ) (pa_cons (pe_call T.okP h1 rfl T.gP T.kP T.bP .nil pass0 (pa_cons (pe_call T.okB h1 rfl T.gB T.kB T.bB .nil pass0 (pa_cons (pv 0) pa_nil)) (pa_cons (pe_call T.okB h1 rfl T.gB T.kB T.bB .nil pass0 (pa_cons (pv 1) pa_nil)) pa_nil))) pa_nil))), ?_⟩
    refine ⟨_, rfl, p, m, rfl, hp, by omega, sm, fun d1 H1 s1 n1 e1 => ?_⟩
    refine ⟨_, rfl, q, n, rfl, hq.up (same_tups s1), by omega, sn, fun d2 H2 s2 n2 e2 => ?_⟩
    refine ⟨d1, d2, m, n, rfl, e1.up s2, e2, hl, nz, fun d3 H3 s3 n3 e3 => ?_⟩
    exact ⟨d3, plusI m n, z, rfl, e3, Nat.lt_of_le_of_lt (len_plusI n m) hl, bad, raises_up go fun a o e => s3 a o (s2 a o (s1 a o e))⟩
theorem ok_lessBad {f : Addr} {fd : FuncData} (F : Fun K "less" "less" sLess f fd) (T : AddTxt P w K mg base fB fP fM fO dB dP dM dO) (GO : FnOk P w K mg base (L2N.CX P w) 4 fO dO ["table"] (spOfBad K w C)) : FnOk P w K mg base (L2N.CX P w) 5 f fd ["p", "q"] (spBad K C lessI) := by
  refine okN F scLess (fun vs H Q E h => ?_) (fun cdv A outer s H vs Q E hr h => ?_)
  · obtain ⟨p, q, m, n, z, rfl, _⟩ := h
    rfl
  · obtain ⟨p, q, m, n, z, rfl, hp, hq, sm, sn, hl, nz, bad, go⟩ := h
    have h1 : Room 1 _ := hr.mono (by decide)
    have h2 : Room 2 _ := hr.mono (by decide)
    refine ⟨_, pss_one (ps_ret (pe_callS GO hr rfl T.gO T.kO T.bO (fun σ => L2N.passAt (L2N.takes_of rfl rfl rfl rfl) σ) (pa_cons (pe_call T.okM h2 rfl T.gM T.kM T.bM .nil pass0 (pa_cons (pe_call T.okB h1 rfl T.gB T.kB T.bB .nil pass0 (pa_cons (pv 0) pa_nil)) (pa_cons (pe_call T.okB h1 rfl T.gB T.kB T.bB .nil pass0 (pa_cons (pv 1) pa_nil)) pa_nil))) pa_nil))), ?_⟩
    refine ⟨_, rfl, p, m, rfl, hp, by omega, sm, fun d1 H1 s1 n1 e1 => ?_⟩
    refine ⟨_, rfl, q, n, rfl, hq.up (same_tups s1), by omega, sn, fun d2 H2 s2 n2 e2 => ?_⟩
    refine ⟨d1, d2, m, n, rfl, e1.up s2, e2, hl, nz, fun d3 H3 s3 n3 e3 => ?_⟩
    exact ⟨d3, lessI m n, z, rfl, e3, Nat.lt_of_le_of_lt (len_plusI (negI n) m) (by rw [len_neg]; exact hl), bad, raises_up go fun a o e => s3 a o (s2 a o (s1 a o e))⟩
/-- _law_raised(one, other, minus_v) -/
def spRaised (K : PySem.W.Frag) : Sp := fun vs H Q _ => ∃ (p q : Addr) (b : Bool) (m n : List NI) (z : Str), vs = [.ref p, .ref q, .bl b] ∧ PolyV K H p m ∧ PolyV K H q n ∧ MonSm m ∧ MonSm n ∧ m.length + n.length < sizeLine ∧ (∀ x ∈ n, x.2 ≠ 0) ∧ Bad (if b = true then lessI m n else plusI m n) z ∧
  ∀ (r : Addr) (G : Hp), Same H G → H r = none → G r = some (.tup [.str "many", .str z, .bl true]) → Q (.ref r) G
structure RaisedTxt (P : Program) (w : World) (K : PySem.W.Frag) (mg : Str → Option Value) (base : Heap) (C fA fL : Addr) (dA dL : FuncData) : Prop where
  isinst : mg "isinstance" = none
  okA : FnOk P w K mg base (L2N.CX P w) 5 fA dA ["p", "q"] (spBad K C plusI)
  bA : Binds K dA ["p", "q"] []
  gA : mg "added" = some (.ref fA)
  kA : PySem.W.keepIn K (.ref fA) = true
  okL : FnOk P w K mg base (L2N.CX P w) 5 fL dL ["p", "q"] (spBad K C lessI)
  bL : Binds K dL ["p", "q"] []
  gL : mg "less" = some (.ref fL)
  kL : PySem.W.keepIn K (.ref fL) = true
variable {fA fL : Addr} {dA dL : FuncData}
theorem takes0N {X : Cx} : L2N.Takes X (fun _ _ _ _ => False) := fun _ _ ⟨_, _, _, _, _, _, _, _, _, _, _, _, _, _, _, _, z⟩ => z.elim
theorem scRaised : FnScope ["one", "other", "minus_v", "e"] ["one", "other", "minus_v"] (defScope sRaised) := ⟨rfl, rfl, rfl, by decide +kernel, rfl, by decide +kernel, by decide +kernel⟩
theorem ok_raised {f : Addr} {fd : FuncData} (F : Fun K "_law_raised" "_law_raised" sRaised f fd) (U : ManyTxt P w K mg base B C fI dI) (T : RaisedTxt P w K mg base C fA fL dA dL) : FnOk P w K mg base CX0 6 f fd ["one", "other", "minus_v"] (spRaised K) := by
  refine F.ok scRaised (fun vs H Q E h => ?_) (fun cdv A outer s H vs Q E hr h => ?_)
  · obtain ⟨p, q, b, m, n, z, rfl, _⟩ := h
    rfl
  · obtain ⟨p, q, b, m, n, z, rfl, hp, hq, sm, sn, hl, nz, bad, go⟩ := h
    refine ⟨_, pss_cons (L2N.ps_try_as (i := 3) (ts := fun a cls d => tRet (tTup (tCons (tC (.str "many")) (tCons (tXf a cls d C "word" (tVar 3)) (tCons (tCB (rErrIs K cls a d) (tCons (tVar 3) (tCons (tC (.ref B)) tNil))) tNil)))))
      (tb := fun W => tIfS (fun σ H Q => tVar 2 σ H fun x H' => ∃ k, TruV K x H' k ∧ Q k H') (tDrop (tCallS (spBad K C lessI) (WE W) (tCons (tVar 0) (tCons (tVar 1) tNil)))) (tDrop (tCallS (spBad K C plusI) (WE W) (tCons (tVar 0) (tCons (tVar 1) tNil)))))
      rfl rfl scRaised.nd rfl rfl ⟨rfl, by decide, .inl U.gC⟩ takes0N
      (fun W pn xe tk _ => pss_one (ps_if (by exact (pt_truth (pv 2) (fun _ => rfl))) (pss_one (ps_expr (by exact (pe_callS T.okL hr rfl T.gL T.kL T.bL (fun σ => L2N.passAt tk σ) (by exact (pa_cons (pv 0) (pa_cons (pv 1) pa_nil)))))))
        (pss_one (ps_expr (by exact (pe_callS T.okA hr rfl T.gA T.kA T.bA (fun σ => L2N.passAt tk σ) (by exact (pa_cons (pv 0) (pa_cons (pv 1) pa_nil)))))))))
      (fun a oe cls d pn hz hf => pss_one (ps_ret (by exact (pe_tup (pa_cons pe_str (pa_cons (pe_xf U.xf U.no hz.zc hf (pv 3)) (pa_cons (pe_callB (call_errIs hz.zc hf) (by rfl) T.isinst (by decide +kernel) (pa_cons (pv 3) (pa_cons (pe_glob (by rfl) U.gB (v := .ref B) (by exact rfl)) pa_nil))) pa_nil))))))))
      (pss_one (ps_ret (pe_tup (pa_cons pe_str (pa_cons pe_str (pa_cons pe_bl pa_nil)))))), ?_⟩
    have fin : ∀ {G : Hp} {dd t : Addr}, Same H G → G dd = none → upd G dd (.xd [("word", .str z)]) t = none → Q (.ref t) (upd (upd G dd (.xd [("word", .str z)])) t (.tup [.str "many", .str z, .bl true])) := fun {G dd t} sG nd nt => by
      have s1 : Same H (upd G dd (.xd [("word", .str z)])) := fun a o e => (upd_ne (ne_of_none (sG a o e) nd)).trans (sG a o e)
      refine go t _ (fun a o e => (upd_ne (ne_of_none (s1 a o e) nt)).trans (s1 a o e)) ?_ upd_same
      exact same_none s1 nt
    refine ⟨_, rfl, b, rfl, ?_⟩
    cases b with
    | true =>
      refine ifY rfl ⟨_, rfl, _, rfl, p, q, m, n, z, rfl, hp, hq, sm, sn, hl, nz, bad, fun G dd sG nd => ⟨true, U.exm, fun _ a na => ?_, fun z => (nomatch z)⟩⟩
      exact ⟨_, rfl, rfl, rfl, dd, _, .str z, rfl, upd_same, rfl, _, rfl, C, .ref B, .ref B, true, rfl, U.ask, rfl, .own _, fun d' e => by cases e; exact ⟨_, upd_same⟩, U.kit, (by show 3 ≤ sizeLine; decide), fun t nt => fin sG nd nt⟩
    | false =>
      refine ifN rfl ⟨_, rfl, _, rfl, p, q, m, n, z, rfl, hp, hq, sm, sn, hl, nz, bad, fun G dd sG nd => ⟨true, U.exm, fun _ a na => ?_, fun z => (nomatch z)⟩⟩
      exact ⟨_, rfl, rfl, rfl, dd, _, .str z, rfl, upd_same, rfl, _, rfl, C, .ref B, .ref B, true, rfl, U.ask, rfl, .own _, fun d' e => by cases e; exact ⟨_, upd_same⟩, U.kit, (by show 3 ≤ sizeLine; decide), fun t nt => fin sG nd nt⟩
end
end K1P

set_option Elab.async false
set_option linter.all false
set_option maxRecDepth 100000
set_option maxHeartbeats 8000000
/-! The law's look at the bound of figures, and at constants. -/
namespace K1P
open PySem L2 K1D
open K0 (FlowAt FlowL spDraw row)
open K0S (Alike spSame)
abbrev sBound : Stmt := top 32
abbrev sConsts : Stmt := top 35
theorem rise_one (x : NI) : riseI [x] = [x] := by
  unfold riseI
  exact List.mergeSort_singleton x
theorem plus_one (k : NestedKey) (a b : Int) : plusI [(k, a)] [(k, b)] = if a + b = 0 then [] else [(k, a + b)] := by
  show plusOne [(k, a)] (k, b) = _
  have e : valI [(k, a)] k = some a := by
    rw [valI_cons, if_pos rfl]
  unfold plusOne
  show (if (valI [(k, a)] k).getD 0 + b ≠ 0 then putI [(k, a)] k ((valI [(k, a)] k).getD 0 + b) else dropI [(k, a)] k) = _
  rw [e]
  show (if a + b ≠ 0 then putI [(k, a)] k (a + b) else dropI [(k, a)] k) = _
  by_cases z : a + b = 0
  · rw [if_neg (fun q => q z), if_pos z]
    unfold dropI
    simp
  · rw [if_pos z, if_neg z]
    unfold putI
    rw [e]
    simp
theorem one_poly {K : PySem.W.Frag} {G : Hp} {k : NestedKey} {r t u : Addr} {c : Int} (kr : KeyV K G k (.ref r)) (mk : IsMon k) (nt : G t = none) (nu : upd G t (.tup [.ref r, .int c]) u = none) :
    Same G (upd (upd G t (.tup [.ref r, .int c])) u (.tup [.ref t])) ∧ PolyV K (upd (upd G t (.tup [.ref r, .int c])) u (.tup [.ref t])) u [(k, c)] := by
  have s1 : Same G (upd G t (.tup [.ref r, .int c])) := fun a o e => (upd_ne (ne_of_none e nt)).trans e
  have s2 : Same (upd G t (.tup [.ref r, .int c])) (upd (upd G t (.tup [.ref r, .int c])) u (.tup [.ref t])) := fun a o e => (upd_ne (ne_of_none e nu)).trans e
  have tt : (upd (upd G t (.tup [.ref r, .int c])) u (.tup [.ref t])) t = some (.tup [.ref r, .int c]) := s2 _ _ upd_same
  refine ⟨fun a o e => s2 a o (s1 a o e), .tup upd_same (.cons (.tup tt (.cons ((kr.up (same_tups s1) _ _).up (same_tups s2) _ _) (.cons (.int c) .nil))) .nil), fun x hx => ?_, List.nodup_cons.mpr ⟨by simp, List.nodup_nil⟩⟩
  rw [List.mem_singleton.mp hx]
  exact mk
theorem monSm_one {ms : Mon} {c : Int} (h : ms.length ≤ 1000) : MonSm [(monK ms, c)] := fun x hx ms' e => by
  rw [List.mem_singleton.mp hx] at e
  have := monK_len e
  rw [sizeLine_eq]
  omega
theorem nz_one {k : NestedKey} {c : Int} (h : c ≠ 0) : ∀ x ∈ [((k, c) : NI)], x.2 ≠ 0 := fun x hx => by
  rw [List.mem_singleton.mp hx]
  exact h
theorem alike_told {H : Hp} {r t : Addr} {z : Str} (hr : H r = some (.tup [.str "many", .str z, .bl true])) (ht : H t = some (.tup [.str "many", .str z, .bl true])) : Alike H 4 (.ref r) (.ref t) := by
  refine .tup hr ht rfl (by show 3 ≤ sizeLine; decide) fun i x y hx hy => ?_
  rw [hx] at hy
  cases hy
  match i, hx with
  | 0, hx => cases hx; exact .str 3 _
  | 1, hx => cases hx; exact .str 3 _
  | 2, hx => cases hx; exact .bl 3 _
  | (i + 3), hx => simp at hx
theorem flow_same {H G : Hp} {p : Addr} (f : FlowAt H p) (s : Same H G) : FlowAt G p := by
  obtain ⟨l, ns, i, c, n, m, b, h1, h2, h3⟩ := f
  exact ⟨l, ns, i, c, n, m, b, s _ _ h1, s _ _ h2, h3⟩
def spConsts : Sp := fun vs H Q _ => ∃ p : Addr, vs = [.ref p] ∧ FlowAt H p ∧ ∀ G, Q (.bl true) G
structure BndTxt (P : Program) (w : World) (K : PySem.W.Frag) (mg : Str → Option Value) (base : Heap) (fD fN fM fR fC : Addr) (dD dN' dM dR dC : FuncData) : Prop where
  okD : FnOk P w K mg base CX0 2 fD dD ["flow", "many"] spDraw
  bD : Binds K dD ["flow", "many"] []
  gD : mg "_law_draw" = some (.ref fD)
  kD : PySem.W.keepIn K (.ref fD) = true
  okN : FnOk P w K mg base CX0 3 fN dN' ["flow"] spNumL
  bN : Binds K dN' ["flow"] []
  gN : mg "_law_number" = some (.ref fN)
  kN : PySem.W.keepIn K (.ref fN) = true
  okM : FnOk P w K mg base CX0 3 fM dM ["flow", "names", "greatest"] (spMon K)
  bM : Binds K dM ["flow", "names", "greatest"] []
  gM : mg "_law_monomial" = some (.ref fM)
  kM : PySem.W.keepIn K (.ref fM) = true
  okR : FnOk P w K mg base CX0 6 fR dR ["one", "other", "minus_v"] (spRaised K)
  bR : Binds K dR ["one", "other", "minus_v"] []
  gR : mg "_law_raised" = some (.ref fR)
  kR : PySem.W.keepIn K (.ref fR) = true
  okC : FnOk P w K mg base CX0 2 fC dC ["k"] (spConst K)
  bC : Binds K dC ["k"] []
  nC : KBn K dC ["k"] 0 ["k"] (fun _ ws => ws) (fun _ zs => zs)
  gC : mg "constant" = some (.ref fC)
  kC : PySem.W.keepIn K (.ref fC) = true
section
variable {P : Program} {w : World} {K : PySem.W.Frag} {mg : Str → Option Value} {base : Heap} {fP fS fA fL fE fD fN fM fR fC : Addr} {dP dS dA dL dE dD dN' dM dR dC : FuncData}
theorem scConsts : FnScope ["flow", "one"] ["flow"] (defScope sConsts) := ⟨rfl, rfl, rfl, by decide +kernel, rfl, by decide +kernel, by decide +kernel⟩
theorem great_lt : (greatN.natAbs : Int) < tooGreat := by decide +kernel
theorem ok_consts {f : Addr} {fd : FuncData} (F : Fun K "_law_constants_right" "_law_constants_right" sConsts f fd) (T : TwoTxt P w K mg base fP fS fA fL fE dP dS dA dL dE) (U : BndTxt P w K mg base fD fN fM fR fC dD dN' dM dR dC) : FnOk P w K mg base CX0 6 f fd ["flow"] spConsts := by
  refine F.ok scConsts (fun vs H Q E h => ?_) (fun cdv A outer s H vs Q E hr h => ?_)
  · obtain ⟨p, rfl, _⟩ := h
    rfl
  · obtain ⟨p, rfl, hf, go⟩ := h
    have h2 : Room 2 _ := hr.mono (by decide)
    have h3 : Room 3 _ := hr.mono (by decide)
    refine ⟨_, pss_cons (ps_set (i := 1) scConsts.nd rfl (Or.inl rfl) (pe_call U.okN h3 rfl U.gN U.kN U.bN .nil pass0 (pa_cons (pv 0) pa_nil)))
      (pss_cons (ps_if (PW.pt (pw_or (pt_not (pt_val (pe_call T.okE hr rfl T.gE T.kE T.bE .nil pass0 (pa_cons (pe_call U.okC h2 rfl U.gC U.kC U.bC .nil pass0 (pa_cons (pv 1) pa_nil)) (pa_cons (pe_tup (pa_cons (pe_tup (pa_cons (pe_tup pa_nil) (pa_cons (pv 1) pa_nil))) pa_nil)) pa_nil)))))
          (pw_or1 (pt_not (pt_val (pe_call T.okE hr rfl T.gE T.kE T.bE .nil pass0 (pa_cons (pe_callN0 U.okC h2 rfl U.gC U.kC U.nC pass0 (pk_cons pe_int pk_nil)) (pa_cons (pe_tup pa_nil) pa_nil)))))))) (pss_one (ps_ret pe_bl)) pss_nil)
      (pss_one (ps_ret (pe_call T.okE hr rfl T.gE T.kE T.bE .nil pass0 (pa_cons (pe_call T.okA h3 rfl T.gA T.kA T.bA .nil pass0 (pa_cons (pe_call U.okC h2 rfl U.gC U.kC U.bC .nil pass0 (pa_cons (pv 1) pa_nil)) (pa_cons (pe_call U.okC h2 rfl U.gC U.kC U.bC .nil pass0 (pa_cons (pe_op op_sub pe_int (pv 1)) pa_nil)) pa_nil))) (pa_cons (pe_tup pa_nil) pa_nil)))))), ?_⟩
    refine ⟨_, rfl, p, rfl, hf, fun z G z0 z1 fG bG => ?_⟩
    have zl : ((z.natAbs : Nat) : Int) < tooGreat := by have := great_lt; omega
    have cz : constI z = [(monK [], z)] := by unfold constI; rw [if_neg z0]
    have nilm : IsMon (monK []) := ⟨[], rfl⟩
    refine ⟨_, rfl, z, rfl, zl, fun r1 G1 s1 q1 => ?_⟩
    rw [cz] at q1
    refine ⟨by show 0 ≤ sizeLine; exact Nat.zero_le _, fun e ne => ⟨_, rfl, by show 2 ≤ sizeLine; decide, fun t nt => ⟨by show 1 ≤ sizeLine; decide, fun u nu => ?_⟩⟩⟩
    have se : Same G1 (upd G1 e (.tup [])) := fun a o q => (upd_ne (ne_of_none q ne)).trans q
    have ke : KeyV K (upd G1 e (.tup [])) (monK []) (.ref e) := .tup upd_same .nil
    obtain ⟨st, qt⟩ := one_poly (c := z) ke nilm nt nu
    refine ⟨_, _, rfl, poly_alike ((q1.up (same_tups se)).up (same_tups st)) qt rfl (monSm_one (Nat.zero_le _)) (by show 1 ≤ sizeLine; decide), fun G2 s2 => ⟨true, rfl, ifN rfl ?_⟩⟩
    refine ⟨rfl, 0, rfl, by decide +kernel, fun r3 G3 s3 q3 => ⟨by show 0 ≤ sizeLine; exact Nat.zero_le _, fun e3 ne3 => ?_⟩⟩
    have s4 : Same G3 (upd G3 e3 (.tup [])) := fun a o q => (upd_ne (ne_of_none q ne3)).trans q
    have nilV : ∀ {G : Hp} {r : Addr}, G r = some (.tup []) → PolyV K G r [] := fun {G r} h => ⟨.tup h .nil, (fun x hx => nomatch hx), List.nodup_nil⟩
    have c0 : constI 0 = [] := rfl
    rw [c0] at q3
    refine ⟨_, _, rfl, poly_alike (q3.up (same_tups s4)) (nilV upd_same) rfl (fun x hx => nomatch hx) (Nat.zero_le _), fun G5 s5 => ⟨true, rfl, ifN rfl ?_⟩⟩
    refine ⟨_, rfl, z, rfl, zl, fun r6 G6 s6 q6 => ?_⟩
    rw [cz] at q6
    have z0' : 0 - z ≠ 0 := by omega
    have cz' : constI (0 - z) = [(monK [], 0 - z)] := by unfold constI; rw [if_neg z0']
    refine ⟨_, rfl, _, _, rfl, rfl, 0 - z, rfl, by omega, fun r7 G7 s7 q7 => ?_⟩
    rw [cz'] at q7
    have pz : plusI [(monK [], z)] [(monK [], 0 - z)] = [] := by rw [plus_one, if_pos (by omega)]
    refine ⟨r6, r7, _, _, rfl, q6.up (same_tups s7), q7, monSm_one (Nat.zero_le _), monSm_one (Nat.zero_le _), by show 2 < sizeLine; decide, nz_one z0', by rw [pz]; exact ⟨Nat.zero_le _, fun x hx => nomatch hx⟩, fun r8 G8 s8 q8 => ?_⟩
    rw [pz, rise_nil] at q8
    refine ⟨by show 0 ≤ sizeLine; exact Nat.zero_le _, fun e9 ne9 => ?_⟩
    have s9 : Same G8 (upd G8 e9 (.tup [])) := fun a o q => (upd_ne (ne_of_none q ne9)).trans q
    exact ⟨_, _, rfl, poly_alike (q8.up (same_tups s9)) (nilV upd_same) rfl (fun x hx => nomatch hx) (Nat.zero_le _), fun G10 _ => go G10⟩
def spBound : Sp := fun vs H Q _ => ∃ (p l : Addr) (ns : List Str), vs = [.ref p, .ref l] ∧ FlowAt H p ∧ H l = some (.lst (ns.map V.str)) ∧ ns.length ≤ 4 ∧ StrOks ns ∧ ∀ G, FlowAt G p → But p H G → Q (.bl true) G
theorem scBound : FnScope ["flow", "names", "most", "more", "monomial", "sign", "high", "step", "beyond", "away"] ["flow", "names"] (defScope sBound) := ⟨rfl, rfl, rfl, by decide +kernel, rfl, by decide +kernel, by decide +kernel⟩
theorem most_eq : ((10 : Int) ^ 50 * 10 ^ 50 * 10 ^ 50 * 10 ^ 50 - 1) = tooGreat - 1 := by decide +kernel
theorem ten20 : ((10 : Int) ^ 20) = 100000000000000000000 := by decide +kernel
theorem great_pos : (200000000000000000000 : Int) < tooGreat := by decide +kernel
theorem ok_bound {f : Addr} {fd : FuncData} (F : Fun K "_law_bound_right" "_law_bound_right" sBound f fd) (T : TwoTxt P w K mg base fP fS fA fL fE dP dS dA dL dE) (U : BndTxt P w K mg base fD fN fM fR fC dD dN' dM dR dC) : FnOk P w K mg base CX0 7 f fd ["flow", "names"] spBound := by
  refine F.ok scBound (fun vs H Q E h => ?_) (fun cdv A outer s H vs Q E hr h => ?_)
  · obtain ⟨p, l, ns, rfl, _⟩ := h
    rfl
  · obtain ⟨p, l, ns, rfl, hf, hl, nl, ok, go⟩ := h
    have h2 : Room 2 _ := hr.mono (by decide)
    have h3 : Room 3 _ := hr.mono (by decide)
    have h5 : Room 5 _ := hr.mono (by decide)
    refine ⟨_, pss_cons (ps_set (i := 2) scBound.nd rfl (Or.inl rfl) (pe_op op_sub (pe_op op_mulW (pe_op op_mulW (pe_op op_mulW (pe_op op_pow pe_int pe_int) (pe_op op_pow pe_int pe_int)) (pe_op op_pow pe_int pe_int)) (pe_op op_pow pe_int pe_int)) pe_int))
      (pss_cons (ps_set (i := 3) scBound.nd rfl (Or.inl rfl) (pe_op op_add pe_int (pe_call U.okD h2 rfl U.gD U.kD U.bD .nil pass0 (pa_cons (pv 0) (pa_cons (pe_op op_pow pe_int pe_int) pa_nil)))))
      (pss_cons (ps_set (i := 4) scBound.nd rfl (Or.inl rfl) (pe_call U.okM h3 rfl U.gM U.kM U.bM .nil pass0 (pa_cons (pv 0) (pa_cons (pv 1) (pa_cons pe_int pa_nil)))))
      (pss_cons (ps_for PassesOwn.never rfl (pi_list (pe_lst (pa_cons pe_int (pa_cons (pe_un un_neg pe_int) pa_nil)))) (pg_name (i := 5) scBound.nd rfl (Or.inl rfl))
        (pss_cons (ps_set (i := 6) scBound.nd rfl (Or.inl rfl) (pe_tup (pa_cons (pe_tup (pa_cons (pv 4) (pa_cons (pe_op op_mul (pv 5) (pe_op op_sub (pv 2) (pv 3))) pa_nil))) pa_nil)))
        (pss_cons (ps_set (i := 7) scBound.nd rfl (Or.inl rfl) (pe_tup (pa_cons (pe_tup (pa_cons (pv 4) (pa_cons (pe_op op_mul (pv 5) (pv 3)) pa_nil))) pa_nil)))
        (pss_cons (ps_set (i := 8) scBound.nd rfl (Or.inl rfl) (pe_tup (pa_cons (pe_tup (pa_cons (pv 4) (pa_cons (pe_op op_mul (pv 5) (pe_op op_add (pv 3) pe_int)) pa_nil))) pa_nil)))
        (pss_cons (ps_if (pt_not (pt_val (pe_call T.okE h5 rfl T.gE T.kE T.bE .nil pass0 (pa_cons (pe_call T.okA h3 rfl T.gA T.kA T.bA .nil pass0 (pa_cons (pv 6) (pa_cons (pv 7) pa_nil))) (pa_cons (pe_tup (pa_cons (pe_tup (pa_cons (pv 4) (pa_cons (pe_op op_mul (pv 5) (pv 2)) pa_nil))) pa_nil)) pa_nil))))) (pss_one (ps_ret pe_bl)) pss_nil)
        (pss_cons (ps_if (pt_not (pt_val (pe_call T.okE h5 rfl T.gE T.kE T.bE .nil pass0 (pa_cons (pe_call U.okR hr rfl U.gR U.kR U.bR .nil pass0 (pa_cons (pv 6) (pa_cons (pv 8) (pa_cons pe_bl pa_nil)))) (pa_cons (pe_tup (pa_cons pe_str (pa_cons pe_str (pa_cons pe_bl pa_nil)))) pa_nil))))) (pss_one (ps_ret pe_bl)) pss_nil)
        (pss_cons (ps_set (i := 9) scBound.nd rfl (Or.inl rfl) (pe_tup (pa_cons (pe_tup (pa_cons (pv 4) (pa_cons (pe_op op_sub pe_int (pe_op op_mul (pv 5) (pe_op op_add (pv 3) pe_int))) pa_nil))) pa_nil)))
        (pss_cons (ps_if (pt_not (pt_val (pe_call T.okE h5 rfl T.gE T.kE T.bE .nil pass0 (pa_cons (pe_call U.okR hr rfl U.gR U.kR U.bR .nil pass0 (pa_cons (pv 6) (pa_cons (pv 9) (pa_cons pe_bl pa_nil)))) (pa_cons (pe_tup (pa_cons pe_str (pa_cons pe_str (pa_cons pe_bl pa_nil)))) pa_nil))))) (pss_one (ps_ret pe_bl)) pss_nil)
        (pss_one (ps_if (pt_not (pt_val (pe_call T.okE h5 rfl T.gE T.kE T.bE .nil pass0 (pa_cons (pe_call T.okL h3 rfl T.gL T.kL T.bL .nil pass0 (pa_cons (pv 6) (pa_cons (pe_tup (pa_cons (pe_tup (pa_cons (pv 4) (pa_cons (pe_op op_sub pe_int (pe_op op_mul (pv 5) (pv 3))) pa_nil))) pa_nil)) pa_nil))) (pa_cons (pe_tup (pa_cons (pe_tup (pa_cons (pv 4) (pa_cons (pe_op op_mul (pv 5) (pv 2)) pa_nil))) pa_nil)) pa_nil))))) (pss_one (ps_ret pe_bl)) pss_nil))))))))))
      (pss_one (ps_ret pe_bl))))), ?_⟩
    refine ⟨_, _, rfl, rfl, ⟨by decide, by decide, by decide⟩, _, _, rfl, rfl, ⟨by decide, by decide, by decide⟩, _, _, rfl, rfl, by show CMulW ((10 : Int) ^ 50) ((10 : Int) ^ 50); unfold CMulW; decide +kernel, ?_⟩
    refine ⟨_, _, rfl, rfl, ⟨by decide, by decide, by decide⟩, _, _, rfl, rfl, by show CMulW ((10 : Int) ^ 50 * (10 : Int) ^ 50) ((10 : Int) ^ 50); unfold CMulW; decide +kernel, ?_⟩
    refine ⟨_, _, rfl, rfl, ⟨by decide, by decide, by decide⟩, _, _, rfl, rfl, by show CMulW ((10 : Int) ^ 50 * (10 : Int) ^ 50 * (10 : Int) ^ 50) ((10 : Int) ^ 50); unfold CMulW; decide +kernel, ?_⟩
    refine ⟨_, _, rfl, rfl, ?_⟩
    refine (?_ : gName 2 (V.int ((10 : Int) ^ 50 * 10 ^ 50 * 10 ^ 50 * 10 ^ 50 - 1)) _ H _)
    rw [most_eq]
    have tg := great_pos
    generalize hM : tooGreat - 1 = M
    have lp := flow_ne_str hf hl
    obtain ⟨fl, hf'⟩ := id hf
    refine ⟨_, rfl, _, _, rfl, rfl, ⟨by decide, by decide, by decide⟩, p, fl, _, rfl, hf', ?_, fun z xs z0 z1 f1 => ?_⟩
    · show ((10 : Int) ^ 20).natAbs < _
      rw [ten20]
      exact Nat.lt_of_lt_of_le (by decide : _ < 2 ^ 100) (Nat.pow_le_pow_right (by decide) (by decide))
    have z1' : z < 100000000000000000000 ∨ z = 0 := by
      have e : ((10 : Int) ^ (20 : Int).toNat) = 100000000000000000000 := ten20
      rw [e] at z1
      exact z1
    have b1 : But p H (upd H p (.lst xs)) := But.flow
    generalize upd H p (.lst xs) = G1 at f1 b1 ⊢
    refine ⟨_, _, rfl, rfl, ?_⟩
    refine ⟨_, rfl, _, rfl, p, l, 40, ns, rfl, ⟨fl, f1⟩, b1 _ _ lp hl, by decide, by omega, ok, fun ms r G2 f2 b2 kr ml la => ?_⟩
    have bG := b1.trans b2
    have mm : IsMon (monK ms) := ⟨ms, rfl⟩
    have ms1 : ms.length ≤ 1000 := by omega
    refine ⟨_, rfl, by show 2 ≤ sizeLine; decide, fun q nq => ?_⟩
    refine ⟨q, rfl, ⟨_, SqL.of upd_same⟩, for_list (K := K) (a := q) (xs := [.int 1, .int (-1)]) (fun (i : Nat) (σ : L2.St) (G : Hp) => ∃ u5 u6 u7 u8 u9 : Option V, σ = [some (.ref p), some (.ref l), some (.int M), some (.int (1 + z)), some (.ref r), u5, u6, u7, u8, u9] ∧ Same G2 G ∧ G q = some (.lst [.int 1, .int (-1)]))
      ⟨none, none, none, none, none, rfl, fun a o e => (upd_ne (ne_of_none e nq)).trans e, upd_same⟩ (fun i σ G _ ⟨_, _, _, _, _, _, _, h⟩ => SqL.of h) (fun i x σ G hx ⟨u5, u6, u7, u8, u9, hσ, sG, hq⟩ => ?_) (fun σ G ⟨u5, u6, u7, u8, u9, hσ, sG, hq⟩ => ?_)⟩
    · subst hσ
      obtain ⟨sg, rfl, hs⟩ : ∃ sg : Int, x = .int sg ∧ (sg = 1 ∨ sg = -1) := by
        match i, hx with
        | 0, hx => cases hx; exact ⟨1, rfl, .inl rfl⟩
        | 1, hx => cases hx; exact ⟨-1, rfl, .inr rfl⟩
        | (i + 2), hx => simp at hx
      have cm : ∀ x : Int, CMul sg x := fun x => .inl (by rcases hs with rfl | rfl <;> exact ⟨by decide, by decide⟩)
      have kr := kr.up (same_tups sG) _ _
      -- high
      refine ⟨_, rfl, _, rfl, _, rfl, _, rfl, _, _, rfl, rfl, _, _, rfl, rfl, cm _, by show 2 ≤ sizeLine; decide, fun t nt => ⟨by show 1 ≤ sizeLine; decide, fun u nu => ?_⟩⟩
      obtain ⟨s1, qh⟩ := one_poly (c := sg * (M - (1 + z))) kr mm nt nu
      have kr1 := kr.up (same_tups s1) _ _
      have hq := s1 _ _ hq
      have sG := fun a o e => s1 a o (sG a o e)
      generalize upd (upd G t (.tup [.ref r, .int (sg * (M - (1 + z)))])) u (.tup [.ref t]) = Ga at s1 qh kr1 hq sG ⊢
      clear s1 kr nt nu
      -- step
      refine ⟨_, rfl, _, rfl, _, rfl, _, _, rfl, rfl, cm _, by show 2 ≤ sizeLine; decide, fun t2 nt => ⟨by show 1 ≤ sizeLine; decide, fun u2 nu => ?_⟩⟩
      obtain ⟨s1, qs⟩ := one_poly (c := sg * (1 + z)) kr1 mm nt nu
      have kr1 := kr1.up (same_tups s1) _ _
      have hq := s1 _ _ hq
      have qh := qh.up (same_tups s1)
      have sG := fun a o e => s1 a o (sG a o e)
      generalize upd (upd Ga t2 (.tup [.ref r, .int (sg * (1 + z))])) u2 (.tup [.ref t2]) = Gb at s1 qh qs kr1 hq sG ⊢
      clear s1 nt nu
      -- beyond
      refine ⟨_, rfl, _, rfl, _, rfl, _, _, rfl, rfl, _, _, rfl, rfl, cm _, by show 2 ≤ sizeLine; decide, fun t3 nt => ⟨by show 1 ≤ sizeLine; decide, fun u3 nu => ?_⟩⟩
      obtain ⟨s1, qb⟩ := one_poly (c := sg * (1 + z + 1)) kr1 mm nt nu
      have kr1 := kr1.up (same_tups s1) _ _
      have hq := s1 _ _ hq
      have qh := qh.up (same_tups s1)
      have qs := qs.up (same_tups s1)
      have sG := fun a o e => s1 a o (sG a o e)
      generalize upd (upd Gb t3 (.tup [.ref r, .int (sg * (1 + z + 1))])) u3 (.tup [.ref t3]) = Gc at s1 qh qs qb kr1 hq sG ⊢
      clear s1 nt nu
      have e1 : plusI [(monK ms, sg * (M - (1 + z)))] [(monK ms, sg * (1 + z))] = [(monK ms, sg * M)] := by
        rw [plus_one, if_neg (by rcases hs with rfl | rfl <;> omega)]
        congr 2
        rcases hs with rfl | rfl <;> omega
      have fits1 : Fits [(monK ms, sg * M)] := by
        refine ⟨by show 1 ≤ 2000; decide, fun x hx => ?_⟩
        rw [List.mem_singleton.mp hx]
        show ((sg * M).natAbs : Int) < tooGreat
        rcases hs with rfl | rfl <;> omega
      have one2 : ([((monK ms, sg * (M - (1 + z))) : NI)]).length + ([((monK ms, sg * (1 + z)) : NI)]).length < sizeLine := by show 2 < sizeLine; decide
      -- added(high, step)
      refine ⟨_, rfl, _, rfl, u, u2, _, _, rfl, qh, qs, monSm_one ms1, monSm_one ms1, one2, nz_one (by rcases hs with rfl | rfl <;> omega), by rw [e1]; exact fits1, fun r4 Gd s4 q4 => ?_⟩
      rw [e1, rise_one] at q4
      have kr1 := kr1.up (same_tups s4) _ _
      refine ⟨_, rfl, _, rfl, _, rfl, _, _, rfl, rfl, cm _, by show 2 ≤ sizeLine; decide, fun t5 nt => ⟨by show 1 ≤ sizeLine; decide, fun u5 nu => ?_⟩⟩
      obtain ⟨s5, q5⟩ := one_poly (c := sg * M) kr1 mm nt nu
      refine ⟨_, _, rfl, poly_alike (q4.up (same_tups s5)) q5 rfl (monSm_one ms1) (by show 1 ≤ sizeLine; decide), fun Ge s6 => ⟨true, rfl, ifN rfl ?_⟩⟩
      have sc : Same Gc Ge := fun a o e => s6 a o (s5 a o (s4 a o e))
      have kr1 := (kr1.up (same_tups s5) _ _).up (same_tups s6) _ _
      have hq := sc _ _ hq
      have qh := qh.up (same_tups sc)
      have qb := qb.up (same_tups sc)
      have sG := fun a o e => sc a o (sG a o e)
      clear sc s4 s5 s6 q4 q5 nt nu qs
      -- raised(high, beyond)
      have e2 : plusI [(monK ms, sg * (M - (1 + z)))] [(monK ms, sg * (1 + z + 1))] = [(monK ms, sg * (M + 1))] := by
        rw [plus_one, if_neg (by rcases hs with rfl | rfl <;> omega)]
        congr 2
        rcases hs with rfl | rfl <;> omega
      have bad : ∀ y : Int, y = sg * (M + 1) → Bad [(monK ms, y)] "figures" := fun y hy => .inr ⟨by show 1 ≤ 2000; decide, ⟨_, List.mem_singleton_self _, by rw [hy]; show tooGreat ≤ ((sg * (M + 1)).natAbs : Int); rcases hs with rfl | rfl <;> omega⟩, rfl⟩
      refine ⟨_, rfl, _, rfl, u, u3, false, _, _, "figures", rfl, qh, qb, monSm_one ms1, monSm_one ms1, by show 2 < sizeLine; decide, nz_one (by rcases hs with rfl | rfl <;> omega), by rw [if_neg (by decide), e2]; exact bad _ rfl, fun r7 Gf s7 n7 q7 => ?_⟩
      refine ⟨by show 3 ≤ sizeLine; decide, fun t8 nt => ?_⟩
      have s8 : Same Gf (upd Gf t8 (.tup [.str "many", .str "figures", .bl true])) := fun a o e => (upd_ne (ne_of_none e nt)).trans e
      refine ⟨_, _, rfl, alike_told (s8 _ _ q7) upd_same, fun Gg s9 => ⟨true, rfl, ifN rfl ?_⟩⟩
      have sc : Same Ge Gg := fun a o e => s9 a o (s8 a o (s7 a o e))
      have kr1 := kr1.up (same_tups sc) _ _
      have hq := sc _ _ hq
      have qh := qh.up (same_tups sc)
      have sG := fun a o e => sc a o (sG a o e)
      clear sc s7 s8 s9 q7 nt n7 qb
      -- away
      refine ⟨_, rfl, _, rfl, _, rfl, _, _, rfl, rfl, _, _, rfl, rfl, cm _, _, _, rfl, rfl, by show 2 ≤ sizeLine; decide, fun t9 nt => ⟨by show 1 ≤ sizeLine; decide, fun u9 nu => ?_⟩⟩
      obtain ⟨s1, qa⟩ := one_poly (c := 0 - sg * (1 + z + 1)) kr1 mm nt nu
      have kr1 := kr1.up (same_tups s1) _ _
      have hq := s1 _ _ hq
      have qh := qh.up (same_tups s1)
      have sG := fun a o e => s1 a o (sG a o e)
      generalize upd (upd Gg t9 (.tup [.ref r, .int (0 - sg * (1 + z + 1))])) u9 (.tup [.ref t9]) = Gh at s1 qh qa kr1 hq sG ⊢
      clear s1 nt nu
      have e3 : lessI [(monK ms, sg * (M - (1 + z)))] [(monK ms, 0 - sg * (1 + z + 1))] = [(monK ms, sg * (M + 1))] := by
        show plusI [(monK ms, sg * (M - (1 + z)))] [(monK ms, (0 - sg * (1 + z + 1)) * -1)] = _
        rw [plus_one, if_neg (by rcases hs with rfl | rfl <;> omega)]
        congr 2
        rcases hs with rfl | rfl <;> omega
      refine ⟨_, rfl, _, rfl, u, u9, true, _, _, "figures", rfl, qh, qa, monSm_one ms1, monSm_one ms1, by show 2 < sizeLine; decide, nz_one (by rcases hs with rfl | rfl <;> omega), by rw [if_pos rfl, e3]; exact bad _ rfl, fun r7 Gi s7 n7 q7 => ?_⟩
      refine ⟨by show 3 ≤ sizeLine; decide, fun t8 nt => ?_⟩
      have s8 : Same Gi (upd Gi t8 (.tup [.str "many", .str "figures", .bl true])) := fun a o e => (upd_ne (ne_of_none e nt)).trans e
      refine ⟨_, _, rfl, alike_told (s8 _ _ q7) upd_same, fun Gj s9 => ⟨true, rfl, ifN rfl ?_⟩⟩
      have sc : Same Gh Gj := fun a o e => s9 a o (s8 a o (s7 a o e))
      have kr1 := kr1.up (same_tups sc) _ _
      have hq := sc _ _ hq
      have qh := qh.up (same_tups sc)
      have sG := fun a o e => sc a o (sG a o e)
      clear sc s7 s8 s9 q7 nt n7 qa
      -- less(high, ..)
      have e4 : lessI [(monK ms, sg * (M - (1 + z)))] [(monK ms, 0 - sg * (1 + z))] = [(monK ms, sg * M)] := by
        show plusI [(monK ms, sg * (M - (1 + z)))] [(monK ms, (0 - sg * (1 + z)) * -1)] = _
        rw [plus_one, if_neg (by rcases hs with rfl | rfl <;> omega)]
        congr 2
        rcases hs with rfl | rfl <;> omega
      refine ⟨_, rfl, _, rfl, _, rfl, _, rfl, _, _, rfl, rfl, cm _, _, _, rfl, rfl, by show 2 ≤ sizeLine; decide, fun t9 nt => ⟨by show 1 ≤ sizeLine; decide, fun u10 nu => ?_⟩⟩
      obtain ⟨s1, qa⟩ := one_poly (c := 0 - sg * (1 + z)) kr1 mm nt nu
      have kr1 := kr1.up (same_tups s1) _ _
      have hq := s1 _ _ hq
      have qh := qh.up (same_tups s1)
      have sG := fun a o e => s1 a o (sG a o e)
      generalize upd (upd Gj t9 (.tup [.ref r, .int (0 - sg * (1 + z))])) u10 (.tup [.ref t9]) = Gk at s1 qh qa kr1 hq sG ⊢
      clear s1 nt nu
      refine ⟨u, u10, _, _, rfl, qh, qa, monSm_one ms1, monSm_one ms1, by show 2 < sizeLine; decide, nz_one (by rcases hs with rfl | rfl <;> omega), by rw [e4]; exact fits1, fun r4 Gl s4 q4 => ?_⟩
      rw [e4, rise_one] at q4
      have kr1 := kr1.up (same_tups s4) _ _
      refine ⟨_, rfl, _, rfl, _, rfl, _, _, rfl, rfl, cm _, by show 2 ≤ sizeLine; decide, fun t5 nt => ⟨by show 1 ≤ sizeLine; decide, fun u5 nu => ?_⟩⟩
      obtain ⟨s5, q5⟩ := one_poly (c := sg * M) kr1 mm nt nu
      refine ⟨_, _, rfl, poly_alike (q4.up (same_tups s5)) q5 rfl (monSm_one ms1) (by show 1 ≤ sizeLine; decide), fun Gm s6 => ⟨true, rfl, ifN rfl ?_⟩⟩
      have sc : Same Gk Gm := fun a o e => s6 a o (s5 a o (s4 a o e))
      exact ⟨_, _, _, _, _, rfl, fun a o e => sc a o (sG a o e), sc _ _ hq⟩
    · subst hσ
      exact go G (flow_same f2 sG) (bG.trans (But.same sG))
end
end K1P

set_option Elab.async false
set_option linter.all false
set_option maxRecDepth 100000
set_option maxHeartbeats 8000000
/-! Wide polynomials: 2000 terms, 2001 terms. -/
namespace K1P
open PySem L2 K1D
open K0 (FlowAt FlowL spDraw row)
open K0S (Alike spSame)
abbrev sWide : Stmt := top 33
abbrev sTerms : Stmt := top 34
def wMon (z : Str) (i j : Nat) : Mon := [(z ++ ("_a" : Str), 1 + (i : Int)), (z ++ ("_b" : Str), 0 + (j : Int) + 1)]
def wRow (z : Str) (n i : Nat) : List NI := (List.range n).map fun j => (monK (wMon z i j), 1 + (i : Int) + (0 + (j : Int)))
def wideI (z : Str) (n : Nat) : Nat → List NI
  | 0 => []
  | r + 1 => wideI z n r ++ wRow z n r
theorem row_take {z : Str} {n i j : Nat} (h : j < n) : (wRow z n i).take (j + 1) = (wRow z n i).take j ++ [(monK (wMon z i j), 1 + (i : Int) + (0 + (j : Int)))] := by
  have lt : j < (wRow z n i).length := by unfold wRow; rw [List.length_map, List.length_range]; exact h
  rw [List.take_succ_eq_append_getElem lt]
  congr 2
  have := List.getElem_map (l := List.range n) (fun j : Nat => ((monK (wMon z i j), 1 + (i : Int) + (0 + (j : Int))) : NI)) (i := j) (h := lt)
  rw [List.getElem_range] at this
  exact this
theorem mem_row {z : Str} {n i : Nat} {x : NI} (h : x ∈ wRow z n i) : ∃ j, x = (monK (wMon z i j), 1 + (i : Int) + (0 + (j : Int))) := by
  obtain ⟨j, _, rfl⟩ := List.mem_map.mp h
  exact ⟨j, rfl⟩
theorem mem_wide {z : Str} {n : Nat} {x : NI} : ∀ {r : Nat}, x ∈ wideI z n r → ∃ i j, i < r ∧ x = (monK (wMon z i j), 1 + (i : Int) + (0 + (j : Int)))
  | 0, h => nomatch h
  | r + 1, h => by
    rcases List.mem_append.mp h with h | h
    · obtain ⟨i, j, lt, e⟩ := mem_wide h
      exact ⟨i, j, Nat.lt_succ_of_lt lt, e⟩
    · obtain ⟨j, e⟩ := mem_row h
      exact ⟨r, j, Nat.lt_succ_self r, e⟩
theorem len_wide {z : Str} {n : Nat} : ∀ {r : Nat}, (wideI z n r).length = r * n
  | 0 => by rw [Nat.zero_mul]; rfl
  | r + 1 => by
    show (wideI z n r ++ wRow z n r).length = _
    rw [List.length_append, len_wide, Nat.succ_mul]
    unfold wRow
    rw [List.length_map, List.length_range]
theorem wMon_inj {z z' : Str} {i j i' j' : Nat} (h : monK (wMon z i j) = monK (wMon z' i' j')) : z ++ ("_a" : Str) = z' ++ ("_a" : Str) ∧ i = i' ∧ j = j' := by
  unfold wMon monK pairM at h
  simp only [List.map_cons, List.map_nil, NestedKey.tup.injEq, List.cons.injEq, NestedKey.text.injEq, NestedKey.num.injEq, and_true] at h
  obtain ⟨⟨h1, h2⟩, h3, h4⟩ := h
  exact ⟨h1, by omega, by omega⟩
theorem nodup_row {z : Str} {n i : Nat} : (keysI (wRow z n i)).Nodup := by
  unfold keysI wRow
  rw [List.map_map]
  unfold List.Nodup
  rw [List.pairwise_map]
  exact List.nodup_range.imp fun ne e => ne (wMon_inj e).2.2
theorem nodup_wide {z : Str} {n : Nat} : ∀ {r : Nat}, (keysI (wideI z n r)).Nodup
  | 0 => List.nodup_nil
  | r + 1 => by
    show ((wideI z n r ++ wRow z n r).map _).Nodup
    rw [List.map_append]
    refine List.nodup_append.mpr ⟨nodup_wide, nodup_row, fun a ha b hb e => ?_⟩
    obtain ⟨x, hx, rfl⟩ := List.mem_map.mp ha
    obtain ⟨y, hy, rfl⟩ := List.mem_map.mp hb
    obtain ⟨i, j, lt, rfl⟩ := mem_wide hx
    obtain ⟨j', rfl⟩ := mem_row hy
    have := (wMon_inj e).2.1
    omega
theorem mons_wide {z : Str} {n r : Nat} : MonsI (wideI z n r) := fun x hx => by
  obtain ⟨i, j, _, rfl⟩ := mem_wide hx
  exact ⟨_, rfl⟩
theorem monSm_wide {z : Str} {n r : Nat} : MonSm (wideI z n r) := fun x hx ms e => by
  obtain ⟨i, j, _, rfl⟩ := mem_wide hx
  have h : (wMon z i j).length = ms.length := monK_len e
  have h2 : (wMon z i j).length = 2 := rfl
  rw [sizeLine_eq]
  omega
theorem nz_wide {z : Str} {n r : Nat} : NzI (wideI z n r) := fun x hx => by
  obtain ⟨i, j, _, rfl⟩ := mem_wide hx
  show 1 + (i : Int) + (0 + (j : Int)) ≠ 0
  omega
theorem plusI_disj : ∀ {n m : List NI}, (keysI n).Nodup → (∀ k ∈ keysI n, k ∉ keysI m) → NzI n → plusI m n = m ++ n
  | [], m, _, _, _ => (List.append_nil m).symm
  | x :: n, m, nd, dj, nz => by
    have nd' := List.nodup_cons.mp nd
    have hx : x.1 ∉ keysI m := dj x.1 (List.mem_cons_self ..)
    show plusI (plusOne m x) n = _
    have e : plusOne m x = m ++ [x] := by
      unfold plusOne
      rw [valI_none.mpr hx, Option.getD_none, Int.zero_add, if_pos (nz x (List.mem_cons_self ..)), putI_new _ hx]
    rw [e, plusI_disj nd'.2 (fun k hk q => ?_) (fun y hy => nz y (List.mem_cons_of_mem _ hy)), List.append_assoc]
    · rfl
    · have q : k ∈ (m ++ [x]).map (·.1) := q
      rw [List.map_append] at q
      rcases List.mem_append.mp q with q | q
      · exact dj k (List.mem_cons_of_mem _ hk) q
      · have : k = x.1 := List.mem_singleton.mp q
        rw [this] at hk
        exact nd'.1 hk
theorem wide_disj {n n' r r' : Nat} {z z' : Str} (h : z ++ ("_a" : Str) ≠ z' ++ ("_a" : Str)) : ∀ k ∈ keysI (wideI z n r), k ∉ keysI (wideI z' n' r') := fun k hk q => by
  obtain ⟨x, hx, rfl⟩ := List.mem_map.mp hk
  obtain ⟨y, hy, e⟩ := List.mem_map.mp q
  obtain ⟨i, j, _, rfl⟩ := mem_wide hx
  obtain ⟨i', j', _, rfl⟩ := mem_wide hy
  exact h (wMon_inj e).1.symm
def spWide (K : PySem.W.Frag) : Sp := fun vs H Q _ => ∃ (z : Str) (n : Int), vs = [.str z, .int n] ∧ z.length ≤ 100 ∧ 0 ≤ n ∧ n ≤ 100 ∧ ∀ (r : Addr) (G : Hp), Same H G → PolyV K G r (wideI z n.toNat 40) → Q (.ref r) G
structure WideTxt (mg : Str → Option Value) : Prop where
  tuple : mg "tuple" = none
  range : mg "range" = none
  len : mg "len" = none
section
variable {P : Program} {w : World} {K : PySem.W.Frag} {mg : Str → Option Value} {base : Heap}
theorem scWide : FnScope ["letter", "many", "found", "i", "j"] ["letter", "many"] (defScope sWide) := ⟨rfl, rfl, rfl, by decide +kernel, rfl, by decide +kernel, by decide +kernel⟩
theorem ok_wide {f : Addr} {fd : FuncData} (F : Fun K "_law_wide" "_law_wide" sWide f fd) (T : WideTxt mg) : FnOk P w K mg base CX0 1 f fd ["letter", "many"] (spWide K) := by
  refine F.ok scWide (fun vs H Q E h => ?_) (fun cdv A outer s H vs Q E hr h => ?_)
  · obtain ⟨z, n, rfl, _⟩ := h
    rfl
  · obtain ⟨z, n, rfl, lz, n0, n1, go⟩ := h
    refine ⟨_, pss_cons (ps_set (i := 2) scWide.nd rfl (Or.inl rfl) (pe_lst pa_nil))
      (pss_cons (ps_for PassesOwn.never rfl (pi_range2 (by rfl) T.range (pa_cons pe_int (pa_cons pe_int pa_nil))) (pg_name (i := 3) scWide.nd rfl (Or.inr rfl))
        (pss_one (ps_set (i := 2) scWide.nd rfl (Or.inl rfl) (pe_op op_cat (pv 2) (pe_lc (own := [("j", 4)]) (g := gName 4) rfl scWide.nd
            (pi_range1 (by rfl) T.range (pa_cons (pv 1) pa_nil))
            (blkOk_by (own := [("j", 4)]) (N := ["letter", "many", "found", "i", "j"]) (sc := defScope sWide) (by decide +kernel)) (fun _ _ _ _ _ => pg_name (i := 4) scWide.nd rfl (Or.inl rfl)) (fun _ _ _ _ _ => pts_nil)
            (fun _ _ _ _ _ => pe_tup (pa_cons (pe_tup (pa_cons (pe_tup (pa_cons (pe_op op_add_str (pv 0) pe_str) (pa_cons (pv 3) pa_nil))) (pa_cons (pe_tup (pa_cons (pe_op op_add_str (pv 0) pe_str) (pa_cons (pe_op op_add (pv 4) pe_int) pa_nil))) pa_nil))) (pa_cons (pe_op op_add (pv 3) (pv 4)) pa_nil))))))))
      (pss_one (ps_ret (pe_tupleOf (by rfl) T.tuple (pv 2))))), ?_⟩
    have ll : ∀ y : Str, y.length ≤ 10 → z.length + y.length ≤ sizeLine := fun y hy => by rw [sizeLine_eq]; omega
    obtain ⟨k, rfl⟩ : ∃ k : Nat, n = k := ⟨n.toNat, by omega⟩
    have k1 : k ≤ 100 := by omega
    refine ⟨by show 0 ≤ sizeLine; exact Nat.zero_le _, fun q nq => ?_⟩
    refine ⟨_, _, rfl, ⟨by decide, by decide, by decide, by decide⟩, for_range (lo := 1) (n := ((41 : Int) - 1).toNat) (fun (i : Nat) (σ : L2.St) (G : Hp) => ∃ (q : Addr) (u3 u4 : Option V) (ys : List V), σ = [some (.str z), some (.int k), some (.ref q), u3, u4] ∧ Same H G ∧ G q = some (.lst ys) ∧ KeyVs K G ((wideI z k i).map pairK) ys)
      ⟨q, none, none, [], rfl, fun a o e => (upd_ne (ne_of_none e nq)).trans e, upd_same, .nil⟩ (fun i σ G hi ⟨q, u3, u4, ys, hσ, sG, hq, ky⟩ => ?_) (fun σ G ⟨q, u3, u4, ys, hσ, sG, hq, ky⟩ => ?_)⟩
    · subst hσ
      have hi40 : i < 40 := hi
      refine ⟨_, rfl, _, rfl, _, rfl, by omega, by omega, fun L nL => ?_⟩
      have e0 : ((k : Int)).toNat = k := Int.toNat_natCast k
      rw [e0]
      have Lq : q ≠ L := ne_of_none hq nL
      have s1 : Same G (upd G L (.lst [])) := fun a o e => (upd_ne (ne_of_none e nL)).trans e
      refine lc_range (lo := 0) (n := k) (fun (j : Nat) (F : Hp) => Same G F ∧ ∃ zs : List V, F L = some (.lst zs) ∧ zs.length = j ∧ KeyVs K F (((wRow z k i).take j).map pairK) zs)
        ⟨s1, [], upd_same, rfl, .nil⟩ (fun j F hj ⟨sF, zs, h1, h2, h3⟩ => ?_) (fun F ⟨sF, zs, h1, h2, h3⟩ => ?_)
      · refine ⟨rfl, _, rfl, _, _, rfl, rfl, ll _ (by decide), _, rfl, by show 2 ≤ sizeLine; decide, fun t1 m1 => ?_⟩
        refine ⟨_, rfl, _, _, rfl, rfl, ll _ (by decide), _, rfl, _, _, rfl, rfl, by show 2 ≤ sizeLine; decide, fun t2 m2 => ⟨by show 2 ≤ sizeLine; decide, fun t3 m3 => ?_⟩⟩
        refine ⟨_, rfl, _, rfl, _, _, rfl, rfl, by show 2 ≤ sizeLine; decide, fun t4 m4 => ?_⟩
        have a1 : Same F (upd F t1 (.tup [.str (z ++ ("_a" : Str)), .int (1 + i)])) := fun a o e => (upd_ne (ne_of_none e m1)).trans e
        have g1 : upd F t1 (.tup [.str (z ++ ("_a" : Str)), .int (1 + i)]) t1 = some (.tup [.str (z ++ ("_a" : Str)), .int (1 + i)]) := upd_same
        generalize upd F t1 (.tup [.str (z ++ ("_a" : Str)), .int (1 + i)]) = F1 at a1 g1 m2 m3 m4 ⊢
        have a2 : Same F1 (upd F1 t2 (.tup [.str (z ++ ("_b" : Str)), .int (0 + j + 1)])) := fun a o e => (upd_ne (ne_of_none e m2)).trans e
        have g2 : upd F1 t2 (.tup [.str (z ++ ("_b" : Str)), .int (0 + j + 1)]) t2 = some (.tup [.str (z ++ ("_b" : Str)), .int (0 + j + 1)]) := upd_same
        have g1 := a2 _ _ g1
        generalize upd F1 t2 (.tup [.str (z ++ ("_b" : Str)), .int (0 + j + 1)]) = F2 at a2 g1 g2 m3 m4 ⊢
        have a3 : Same F2 (upd F2 t3 (.tup [.ref t1, .ref t2])) := fun a o e => (upd_ne (ne_of_none e m3)).trans e
        have g3 : KeyV K (upd F2 t3 (.tup [.ref t1, .ref t2])) (monK (wMon z i j)) (.ref t3) := .tup upd_same (.cons (.tup (a3 _ _ g1) (.cons (.str _) (.cons (.int _) .nil))) (.cons (.tup (a3 _ _ g2) (.cons (.str _) (.cons (.int _) .nil))) .nil))
        generalize upd F2 t3 (.tup [.ref t1, .ref t2]) = F3 at a3 g3 m4 ⊢
        have a4 : Same F3 (upd F3 t4 (.tup [.ref t3, .int (1 + i + (0 + j))])) := fun a o e => (upd_ne (ne_of_none e m4)).trans e
        have g4 : KeyV K (upd F3 t4 (.tup [.ref t3, .int (1 + i + (0 + j))])) (pairK (monK (wMon z i j), 1 + (i : Int) + (0 + (j : Int)))) (.ref t4) := .tup upd_same (.cons (g3.up (same_tups a4) _ _) (.cons (.int _) .nil))
        generalize upd F3 t4 (.tup [.ref t3, .int (1 + i + (0 + j))]) = F4 at a4 g4 ⊢
        have sa : Same F F4 := fun a o e => a4 a o (a3 a o (a2 a o (a1 a o e)))
        have h1 := sa _ _ h1
        have h3 := KeyVs.up (same_tups sa) _ _ h3
        refine ⟨zs, h1, by rw [sizeLine_eq]; omega, fun a o e => ?_, zs ++ [.ref t4], upd_same, by rw [List.length_append, h2]; rfl, ?_⟩
        · have ne : a ≠ L := fun q => by rw [q, nL] at e; cases e
          exact (upd_ne ne).trans (sa a o (sF a o e))
        · rw [row_take hj, List.map_append]
          exact KeyVs.up (Tups.put fun xs q => by
            rcases q with q | ⟨o, q⟩
            · rw [h1] at q; cases q
            · rw [h1] at q; cases q) _ _ (keyVs_snoc h3 g4)
      · have lr : (wRow z k i).length = k := by unfold wRow; rw [List.length_map, List.length_range]
        have e1 : (wRow z k i).take k = wRow z k i := List.take_of_length_le (Nat.le_of_eq lr)
        rw [e1] at h3
        have ly := keyVs_len ky
        rw [List.length_map, len_wide] at ly
        have ik : i * k ≤ 40 * 100 := Nat.mul_le_mul (by omega) k1
        have ky := KeyVs.up (same_tups sF) _ _ ky
        refine ⟨q, L, ys, zs, rfl, rfl, sF _ _ hq, h1, by rw [sizeLine_eq]; omega, fun p np => ?_⟩
        have s5 : Same F (upd F p (.lst (ys ++ zs))) := fun a o e => (upd_ne (ne_of_none e np)).trans e
        refine ⟨p, _, _, ys ++ zs, rfl, fun a o e => s5 a o (sF a o (sG a o e)), upd_same, ?_⟩
        show KeyVs K _ ((wideI z k i ++ wRow z k i).map pairK) _
        rw [List.map_append]
        exact keyVs_app (KeyVs.up (same_tups s5) _ _ ky) (KeyVs.up (same_tups s5) _ _ h3)
    · subst hσ
      refine ⟨_, rfl, .inl ⟨q, ys, rfl, SqL.of hq, fun t nt => ?_⟩⟩
      have s5 : Same G (upd G t (.tup ys)) := fun a o e => (upd_ne (ne_of_none e nt)).trans e
      exact go t _ (fun a o e => s5 a o (sG a o e)) ⟨.tup upd_same (KeyVs.up (same_tups s5) _ _ ky), mons_wide, nodup_wide⟩
end
end K1P

set_option Elab.async false
set_option linter.all false
set_option maxRecDepth 100000
set_option maxHeartbeats 8000000
/-! 2000 terms stand, 2001 do not. -/
namespace K1P
open PySem L2 K1D
open K0 (FlowAt FlowL spDraw row)
open K0S (Alike spSame)
def spTerms : Sp := fun vs H Q _ => ∃ p : Addr, vs = [.ref p] ∧ FlowAt H p ∧ ∀ G, FlowAt G p → Q (.bl true) G
theorem xy_a : (("x" : Str) ++ ("_a" : Str)) ≠ (("y" : Str) ++ ("_a" : Str)) := by decide +kernel
theorem nodup_app {m n : List NI} (hm : (keysI m).Nodup) (hn : (keysI n).Nodup) (d : ∀ k ∈ keysI n, k ∉ keysI m) : (keysI (m ++ n)).Nodup := by
  show ((m ++ n).map _).Nodup
  rw [List.map_append]
  exact List.nodup_append.mpr ⟨hm, hn, fun a ha b hb e => d b hb (e ▸ ha)⟩
theorem len_plus_disj {m n : List NI} (hn : (keysI n).Nodup) (d : ∀ k ∈ keysI n, k ∉ keysI m) (nz : NzI n) : (plusI m n).length = m.length + n.length := by
  rw [plusI_disj hn d nz, List.length_append]
theorem len_less_disj {m n : List NI} (hn : (keysI n).Nodup) (d : ∀ k ∈ keysI n, k ∉ keysI m) (nz : NzI n) : (lessI m n).length = m.length + n.length := by
  show (plusI m (negI n)).length = _
  rw [len_plus_disj (nodup_neg hn) (by rw [keysI_neg]; exact d) (nz_neg nz), len_neg]
theorem poly_len {K : PySem.W.Frag} {G : Hp} {r : Addr} {m : List NI} (h : PolyV K G r m) : ∃ xs, G r = some (.tup xs) ∧ xs.length = m.length ∧ KeyVs K G (m.map pairK) xs := by
  obtain ⟨t, xs, e, h1, h2⟩ := key_tup h.1
  cases e
  refine ⟨xs, h1, ?_, h2⟩
  have := keyVs_len h2
  rwa [List.length_map] at this
theorem wide_small {z : Str} {n : Nat} {x : NI} : ∀ {r : Nat}, x ∈ wideI z n r → x.2.natAbs ≤ r + n
  | 0, h => nomatch h
  | r + 1, h => by
    rcases List.mem_append.mp h with h | h
    · have := wide_small h
      omega
    · obtain ⟨j, hj, rfl⟩ := List.mem_map.mp h
      have := List.mem_range.mp hj
      show (1 + (r : Int) + (0 + (j : Int))).natAbs ≤ _
      omega
theorem wide_ne {z : Str} {n r : Nat} {y : Str × Int} : monK [y] ∉ keysI (wideI z n r) := fun q => by
  obtain ⟨x, hx, e⟩ := List.mem_map.mp q
  obtain ⟨i, j, _, rfl⟩ := mem_wide hx
  have h : (wMon z i j).length = 1 := monK_len e
  cases h
theorem fits_of {m : List NI} (h : m.length ≤ 2000) (b : ∀ x ∈ m, x.2.natAbs ≤ 1000) : Fits m := ⟨h, fun x hx => by
  have := b x hx
  have := great_pos
  omega⟩
section
variable {P : Program} {w : World} {K : PySem.W.Frag} {mg : Str → Option Value} {base : Heap} {fP fS fA fL fE fD fN fM fR fC fW : Addr} {dP dS dA dL dE dD dN' dM dR dC dW : FuncData}
theorem scTerms : FnScope ["flow", "few", "one", "last", "more"] ["flow"] (defScope sTerms) := ⟨rfl, rfl, rfl, by decide +kernel, rfl, by decide +kernel, by decide +kernel⟩
theorem ok_terms {f : Addr} {fd : FuncData} (F : Fun K "_law_terms_right" "_law_terms_right" sTerms f fd) (T : TwoTxt P w K mg base fP fS fA fL fE dP dS dA dL dE) (U : BndTxt P w K mg base fD fN fM fR fC dD dN' dM dR dC) (W : WideTxt mg)
    (okW : FnOk P w K mg base CX0 1 fW dW ["letter", "many"] (spWide K)) (bW : Binds K dW ["letter", "many"] []) (gW : mg "_law_wide" = some (.ref fW)) (kW : PySem.W.keepIn K (.ref fW) = true) : FnOk P w K mg base CX0 7 f fd ["flow"] spTerms := by
  refine F.ok scTerms (fun vs H Q E h => ?_) (fun cdv A outer s H vs Q E hr h => ?_)
  · obtain ⟨p, rfl, _⟩ := h
    rfl
  · obtain ⟨p, rfl, hf, go⟩ := h
    have h1 : Room 1 _ := hr.mono (by decide)
    have h2 : Room 2 _ := hr.mono (by decide)
    have h3 : Room 3 _ := hr.mono (by decide)
    have h5 : Room 5 _ := hr.mono (by decide)
    refine ⟨_, pss_cons (ps_set (i := 1) scTerms.nd rfl (Or.inl rfl) (pe_op op_add pe_int (pe_call U.okD h2 rfl U.gD U.kD U.bD .nil pass0 (pa_cons (pv 0) (pa_cons pe_int pa_nil)))))
      (pss_cons (ps_set (i := 2) scTerms.nd rfl (Or.inl rfl) (pe_call okW h1 rfl gW kW bW .nil pass0 (pa_cons pe_str (pa_cons (pv 1) pa_nil))))
      (pss_cons (ps_if (PW.pt (pw_or (pt_cmpR op_ne (pe_callB call_len_seq (by rfl) W.len PySem.boot_len (pa_cons (pe_call T.okA h3 rfl T.gA T.kA T.bA .nil pass0 (pa_cons (pv 2) (pa_cons (pe_call okW h1 rfl gW kW bW .nil pass0 (pa_cons pe_str (pa_cons (pe_op op_sub pe_int (pv 1)) pa_nil))) pa_nil))) pa_nil)) pe_int (nomark _))
          (pw_or1 (pt_cmpR op_ne (pe_callB call_len_seq (by rfl) W.len PySem.boot_len (pa_cons (pe_call T.okL h3 rfl T.gL T.kL T.bL .nil pass0 (pa_cons (pe_call okW h1 rfl gW kW bW .nil pass0 (pa_cons pe_str (pa_cons (pe_op op_sub pe_int (pv 1)) pa_nil))) (pa_cons (pv 2) pa_nil))) pa_nil)) pe_int (nomark _))))) (pss_one (ps_ret pe_bl)) pss_nil)
      (pss_cons (ps_set (i := 3) scTerms.nd rfl (Or.inl rfl) (pe_tup (pa_cons (pe_tup (pa_cons pe_str (pa_cons pe_int pa_nil))) pa_nil)))
      (pss_cons (ps_set (i := 4) scTerms.nd rfl (Or.inl rfl) (pe_op op_catT (pe_call okW h1 rfl gW kW bW .nil pass0 (pa_cons pe_str (pa_cons (pe_op op_sub pe_int (pv 1)) pa_nil))) (pe_tup (pa_cons (pe_tup (pa_cons (pv 3) (pa_cons (pe_op op_mulW (pe_op op_mulW (pe_op op_mulW (pe_op op_pow pe_int pe_int) (pe_op op_pow pe_int pe_int)) (pe_op op_pow pe_int pe_int)) (pe_op op_pow pe_int pe_int)) pa_nil))) pa_nil))))
      (pss_cons (ps_if (pt_not (pt_val (pe_call T.okE h5 rfl T.gE T.kE T.bE .nil pass0 (pa_cons (pe_call U.okR hr rfl U.gR U.kR U.bR .nil pass0 (pa_cons (pv 2) (pa_cons (pv 4) (pa_cons pe_bl pa_nil)))) (pa_cons (pe_tup (pa_cons pe_str (pa_cons pe_str (pa_cons pe_bl pa_nil)))) pa_nil))))) (pss_one (ps_ret pe_bl)) pss_nil)
      (pss_one (ps_ret (pe_call T.okE h5 rfl T.gE T.kE T.bE .nil pass0 (pa_cons (pe_call U.okR hr rfl U.gR U.kR U.bR .nil pass0 (pa_cons (pv 4) (pa_cons (pv 2) (pa_cons pe_bl pa_nil)))) (pa_cons (pe_tup (pa_cons pe_str (pa_cons pe_str (pa_cons pe_bl pa_nil)))) pa_nil)))))))))), ?_⟩
    obtain ⟨fl, hf'⟩ := id hf
    have sl : (16777216 : Nat) = sizeLine := sizeLine_eq.symm
    refine ⟨_, rfl, p, fl, _, rfl, hf', by decide +kernel, fun z xs z0 z1 f1 => ?_⟩
    have z1' : z ≤ 10 := by omega
    generalize upd H p (.lst xs) = G0 at f1 ⊢
    refine ⟨_, _, rfl, rfl, ?_⟩
    obtain ⟨k, hk⟩ : ∃ k : Nat, (20 + z : Int) = k := ⟨(20 + z).toNat, by omega⟩
    refine (?_ : gName 1 (V.int (20 + z)) _ G0 _)
    rw [hk]
    have k1 : 20 ≤ k := by omega
    have k2 : k ≤ 30 := by omega
    have kz : ((k : Int)).toNat = k := Int.toNat_natCast k
    have kd : ((50 - (k : Int))).toNat = 50 - k := by omega
    refine ⟨_, rfl, _, _, rfl, by decide, by omega, by omega, fun r1 G1 s1 q1 => ?_⟩
    rw [kz] at q1
    have ff : FlowAt G1 p := flow_same ⟨fl, f1⟩ s1
    clear f1 hf hf' s1
    -- y
    refine ⟨_, rfl, _, rfl, _, _, rfl, rfl, _, _, rfl, by decide, by omega, by omega, fun r2 G2 s2 q2 => ?_⟩
    rw [kd] at q2
    have q1 := q1.up (same_tups s2)
    have ff := flow_same ff s2
    have nx := nodup_wide (z := "x") (n := k) (r := 40)
    have ny := nodup_wide (z := "y") (n := 50 - k) (r := 40)
    have dxy := wide_disj (n := k) (n' := 50 - k) (r := 40) (r' := 40) xy_a
    have dyx := wide_disj (n := 50 - k) (n' := k) (r := 40) (r' := 40) (Ne.symm xy_a)
    have zx := nz_wide (z := "x") (n := k) (r := 40)
    have zy := nz_wide (z := "y") (n := 50 - k) (r := 40)
    have lx : (wideI "x" k 40).length = 40 * k := len_wide
    have ly : (wideI "y" (50 - k) 40).length = 40 * (50 - k) := len_wide
    have mx := monSm_wide (z := "x") (n := k) (r := 40)
    have my := monSm_wide (z := "y") (n := 50 - k) (r := 40)
    have bx := fun x hx => wide_small (z := "x") (n := k) (r := 40) (x := x) hx
    have by' := fun x hx => wide_small (z := "y") (n := 50 - k) (r := 40) (x := x) hx
    have ex := wide_ne (z := "x") (n := k) (r := 40) (y := ("z_a", 1))
    have ey := wide_ne (z := "y") (n := 50 - k) (r := 40) (y := ("z_a", 1))
    generalize wideI "x" k 40 = X at q1 nx dxy dyx zx lx mx bx ex ⊢
    generalize hY : wideI "y" (50 - k) 40 = Y at q2 ny dxy dyx zy ly my by' ey ⊢
    have lXY : X.length + Y.length = 2000 := by omega
    have pXY := plusI_disj ny dyx zy
    have pl : (plusI X Y).length = 2000 := by rw [len_plus_disj ny dyx zy]; exact lXY
    have ls : (lessI Y X).length = 2000 := by rw [len_less_disj nx dxy zx]; omega
    have f1 : Fits (plusI X Y) := fits_of (Nat.le_of_eq pl) fun x hx => by
      rw [pXY] at hx
      rcases List.mem_append.mp hx with q | q
      · have := bx x q; omega
      · have := by' x q; omega
    have f2 : Fits (lessI Y X) := fits_of (Nat.le_of_eq ls) fun x hx => by
      have e : lessI Y X = Y ++ negI X := plusI_disj (nodup_neg nx) (by rw [keysI_neg]; exact dxy) (nz_neg zx)
      rw [e] at hx
      rcases List.mem_append.mp hx with q | q
      · have := by' x q; omega
      · obtain ⟨y, hy, rfl⟩ := List.mem_map.mp q
        have := bx y hy
        show (y.2 * -1).natAbs ≤ 1000
        omega
    refine ⟨r1, r2, X, Y, rfl, q1, q2, mx, my, by omega, zy, f1, fun r3 G3 s3 q3 => ?_⟩
    obtain ⟨us, u1, u2, _⟩ := poly_len q3
    rw [len_rise, pl] at u2
    refine ⟨r3, us, rfl, .inr (SqT.of u1), ?_⟩
    rw [u2]
    refine ⟨rfl, _, rfl, ifN (by decide +kernel) ?_⟩
    refine ⟨_, rfl, _, _, rfl, rfl, _, _, rfl, by decide, by omega, by omega, fun r4 G4 s4 q4 => ?_⟩
    rw [kd, hY] at q4
    have q1 := (q1.up (same_tups s3)).up (same_tups s4)
    refine ⟨_, rfl, r4, r1, Y, X, rfl, q4, q1, my, mx, by omega, zx, f2, fun r5 G5 s5 q5 => ?_⟩
    obtain ⟨vs, v1, v2, _⟩ := poly_len q5
    rw [len_rise, ls] at v2
    refine ⟨r5, vs, rfl, .inr (SqT.of v1), ?_⟩
    rw [v2]
    refine ⟨rfl, _, rfl, ifN (by decide +kernel) ?_⟩
    have q1 := q1.up (same_tups s5)
    have ff := flow_same (flow_same (flow_same ff s3) s4) s5
    clear q2 q3 q4 q5 u1 v1 s2 s3 s4 s5 f1 f2
    refine ⟨by show 2 ≤ sizeLine; decide, fun t6 n6 => ⟨by show 1 ≤ sizeLine; decide, fun u6 m6 => ?_⟩⟩
    have a1 : Same G5 (upd G5 t6 (.tup [.str "z_a", .int 1])) := fun a o e => (upd_ne (ne_of_none e n6)).trans e
    have g1 : upd G5 t6 (.tup [.str "z_a", .int 1]) t6 = some (.tup [.str "z_a", .int 1]) := upd_same
    generalize upd G5 t6 (.tup [.str "z_a", .int 1]) = F1 at a1 g1 m6 ⊢
    have a2 : Same F1 (upd F1 u6 (.tup [.ref t6])) := fun a o e => (upd_ne (ne_of_none e m6)).trans e
    have kl : KeyV K (upd F1 u6 (.tup [.ref t6])) (monK [("z_a", 1)]) (.ref u6) := .tup upd_same (.cons (.tup (a2 _ _ g1) (.cons (.str _) (.cons (.int _) .nil))) .nil)
    have q1 := (q1.up (same_tups a1)).up (same_tups a2)
    have ff := flow_same (flow_same ff a1) a2
    generalize upd F1 u6 (.tup [.ref t6]) = F2 at kl q1 ff ⊢
    clear a1 a2 g1 m6 n6
    refine ⟨_, rfl, _, _, rfl, rfl, _, _, rfl, by decide, by omega, by omega, fun r7 F3 s7 q7 => ?_⟩
    rw [kd, hY] at q7
    have q1 := q1.up (same_tups s7)
    have kl := kl.up (same_tups s7) _ _
    have ff := flow_same ff s7
    refine ⟨_, rfl, _, _, rfl, rfl, ⟨by decide, by decide, by decide⟩, _, _, rfl, rfl, ⟨by decide, by decide, by decide⟩, _, _, rfl, rfl, by show CMulW ((10 : Int) ^ 50) ((10 : Int) ^ 50); unfold CMulW; decide +kernel, ?_⟩
    refine ⟨_, _, rfl, rfl, ⟨by decide, by decide, by decide⟩, _, _, rfl, rfl, by show CMulW ((10 : Int) ^ 50 * (10 : Int) ^ 50) ((10 : Int) ^ 50); unfold CMulW; decide +kernel, ?_⟩
    refine ⟨_, _, rfl, rfl, ⟨by decide, by decide, by decide⟩, _, _, rfl, rfl, by show CMulW ((10 : Int) ^ 50 * (10 : Int) ^ 50 * (10 : Int) ^ 50) ((10 : Int) ^ 49); unfold CMulW; decide +kernel, ?_⟩
    refine ⟨by show 2 ≤ sizeLine; decide, fun t8 n8 => ?_⟩
    have fin : ∀ E : Int, Same F3 (upd F3 t8 (.tup [.ref u6, .int E])) ∧ KeyV K (upd F3 t8 (.tup [.ref u6, .int E])) (pairK (monK [("z_a", 1)], E)) (.ref t8) := fun E => by
      have sE : Same F3 (upd F3 t8 (.tup [.ref u6, .int E])) := fun a o e => (upd_ne (ne_of_none e n8)).trans e
      exact ⟨sE, .tup upd_same (.cons (kl.up (same_tups sE) _ _) (.cons (.int _) .nil))⟩
    have nE : ((10 : Int) ^ Int.toNat 50 * 10 ^ Int.toNat 50 * 10 ^ Int.toNat 50 * 10 ^ Int.toNat 49) ≠ 0 := by decide +kernel
    obtain ⟨s8, kp⟩ := fin ((10 : Int) ^ Int.toNat 50 * 10 ^ Int.toNat 50 * 10 ^ Int.toNat 50 * 10 ^ Int.toNat 49)
    generalize upd F3 t8 (.tup [.ref u6, .int ((10 : Int) ^ Int.toNat 50 * 10 ^ Int.toNat 50 * 10 ^ Int.toNat 50 * 10 ^ Int.toNat 49)]) = F4 at s8 kp ⊢
    generalize ((10 : Int) ^ Int.toNat 50 * 10 ^ Int.toNat 50 * 10 ^ Int.toNat 50 * 10 ^ Int.toNat 49) = E at nE kp
    have q1 := q1.up (same_tups s8)
    have q7 := q7.up (same_tups s8)
    have ff := flow_same ff s8
    clear fin
    refine ⟨by show 1 ≤ sizeLine; decide, fun u8 m8 => ?_⟩
    have s9 : Same F4 (upd F4 u8 (.tup [.ref t8])) := fun a o e => (upd_ne (ne_of_none e m8)).trans e
    have h8 : upd F4 u8 (.tup [.ref t8]) u8 = some (.tup [.ref t8]) := upd_same
    have q1 := q1.up (same_tups s9)
    have q7 := q7.up (same_tups s9)
    have kp := kp.up (same_tups s9) _ _
    have ff := flow_same ff s9
    generalize upd F4 u8 (.tup [.ref t8]) = F5 at h8 kp q1 q7 ff ⊢
    obtain ⟨ws, w1, w2, w3⟩ := poly_len q7
    have wn : ws ≠ [] := fun e => by rw [e, List.length_nil] at w2; omega
    refine ⟨r7, u8, ws, [.ref t8], rfl, rfl, SqT.of w1, SqT.of h8, wn, by show ws.length + 1 ≤ sizeLine; omega, (fun e => (nomatch e)), fun _ pm nm => ?_⟩
    have s10 : Same F5 (upd F5 pm (.tup (ws ++ [.ref t8]))) := fun a o e => (upd_ne (ne_of_none e nm)).trans e
    have dl : ∀ x ∈ keysI [((monK [("z_a", 1)], E) : NI)], x ∉ keysI Y := fun x hx => by rw [List.mem_singleton.mp hx]; exact ey
    have n1 : (keysI [((monK [("z_a", 1)], E) : NI)]).Nodup := List.nodup_cons.mpr ⟨by simp, List.nodup_nil⟩
    have qm : PolyV K (upd F5 pm (.tup (ws ++ [.ref t8]))) pm (Y ++ [(monK [("z_a", 1)], E)]) := by
      refine ⟨.tup upd_same ?_, fun x hx => ?_, nodup_app ny n1 dl⟩
      · rw [List.map_append]
        exact keyVs_app (KeyVs.up (same_tups s10) _ _ w3) (.cons (kp.up (same_tups s10) _ _) .nil)
      · rcases List.mem_append.mp hx with q | q
        · exact q7.2.1 x q
        · rw [List.mem_singleton.mp q]
          exact ⟨_, rfl⟩
    have q1 := q1.up (same_tups s10)
    have ff := flow_same ff s10
    generalize upd F5 pm (.tup (ws ++ [.ref t8])) = F6 at qm q1 ff ⊢
    have nM : (keysI (Y ++ [((monK [("z_a", 1)], E) : NI)])).Nodup := nodup_app ny n1 dl
    have zM : NzI (Y ++ [((monK [("z_a", 1)], E) : NI)]) := fun x hx => by
      rcases List.mem_append.mp hx with q | q
      · exact zy x q
      · rw [List.mem_singleton.mp q]
        exact nE
    have sM : MonSm (Y ++ [((monK [("z_a", 1)], E) : NI)]) := fun x hx => by
      rcases List.mem_append.mp hx with q | q
      · exact my x q
      · exact monSm_one (c := E) (by decide) x q
    have lM : (Y ++ [((monK [("z_a", 1)], E) : NI)]).length = Y.length + 1 := by rw [List.length_append]; rfl
    have dM1 : ∀ x ∈ keysI (Y ++ [((monK [("z_a", 1)], E) : NI)]), x ∉ keysI X := fun x hx q => by
      have hx : x ∈ (Y ++ [((monK [("z_a", 1)], E) : NI)]).map (·.1) := hx
      rw [List.map_append] at hx
      rcases List.mem_append.mp hx with h | h
      · exact dyx x h q
      · rw [List.mem_singleton.mp h] at q
        exact ex q
    generalize Y ++ [((monK [("z_a", 1)], E) : NI)] = M at qm nM zM sM lM dM1
    refine ⟨_, rfl, _, rfl, r1, pm, false, X, M, "terms", rfl, q1, qm, mx, sM, by omega, zM, .inl ⟨?_, rfl⟩, fun r11 F7 s11 n11 h11 => ?_⟩
    · rw [if_neg (by decide), len_plus_disj nM dM1 zM]
      omega
    refine ⟨by show 3 ≤ sizeLine; decide, fun t12 n12 => ?_⟩
    have s12 : Same F7 (upd F7 t12 (.tup [.str "many", .str "terms", .bl true])) := fun a o e => (upd_ne (ne_of_none e n12)).trans e
    refine ⟨_, _, rfl, alike_told (s12 _ _ h11) upd_same, fun F8 s13 => ⟨true, rfl, ifN rfl ?_⟩⟩
    have sc : Same F6 F8 := fun a o e => s13 a o (s12 a o (s11 a o e))
    have ff := flow_same ff sc
    refine ⟨_, rfl, _, rfl, pm, r1, true, M, X, "terms", rfl, qm.up (same_tups sc), q1.up (same_tups sc), sM, mx, by omega, zx, .inl ⟨?_, rfl⟩, fun r14 F9 s14 n14 h14 => ?_⟩
    · rw [if_pos rfl, len_less_disj nx (fun x hx q => dM1 x q hx) zx]
      omega
    refine ⟨by show 3 ≤ sizeLine; decide, fun t15 n15 => ?_⟩
    have s15 : Same F9 (upd F9 t15 (.tup [.str "many", .str "terms", .bl true])) := fun a o e => (upd_ne (ne_of_none e n15)).trans e
    exact ⟨_, _, rfl, alike_told (s15 _ _ h14) upd_same, fun F10 s16 => go F10 (flow_same (flow_same (flow_same ff s14) s15) s16)⟩
end
end K1P

set_option Elab.async false
set_option linter.all false
set_option maxRecDepth 100000
set_option maxHeartbeats 8000000
/-! The law. -/
namespace K1P
open PySem L2 K1D
open K0 (FlowAt FlowL spFlow spDraw row)
open K0S (Alike spSame)
abbrev sLaw : Stmt := top 36
def spLaw (K : PySem.W.Frag) : Sp := fun vs H Q _ => ∃ (a : Addr) (ns : List Int), vs = [.ref a] ∧ SqL K H a (ns.map V.int) ∧ ∀ H', Q (.bl true) H'
structure LawTxt (P : Program) (w : World) (K : PySem.W.Frag) (mg : Str → Option Value) (base : Heap) (fF fG fT fW fB fQ fK : Addr) (dF dG dT dW dB dQ dK : FuncData) : Prop where
  okF : FnOk P w K mg base CX0 1 fF dF ["script"] (spFlow K)
  bF : Binds K dF ["script"] []
  gF : mg "_law_flow" = some (.ref fF)
  kF : PySem.W.keepIn K (.ref fF) = true
  okG : FnOk P w K mg base CX0 3 fG dG ["flow"] spNames
  bG : Binds K dG ["flow"] []
  gG : mg "_law_names" = some (.ref fG)
  kG : PySem.W.keepIn K (.ref fG) = true
  okT : FnOk P w K mg base CX0 4 fT dT ["flow", "names", "other"] (spTable K w)
  bT : Binds K dT ["flow", "names", "other"] []
  gT : mg "_law_table" = some (.ref fT)
  kT : PySem.W.keepIn K (.ref fT) = true
  okW : FnOk P w K mg base CX0 6 fW dW ["one", "other"] (spTwo K w)
  bW : Binds K dW ["one", "other"] []
  gW : mg "_law_two_right" = some (.ref fW)
  kW : PySem.W.keepIn K (.ref fW) = true
  okB : FnOk P w K mg base CX0 7 fB dB ["flow", "names"] spBound
  bB : Binds K dB ["flow", "names"] []
  gB : mg "_law_bound_right" = some (.ref fB)
  kB : PySem.W.keepIn K (.ref fB) = true
  okQ : FnOk P w K mg base CX0 7 fQ dQ ["flow"] spTerms
  bQ : Binds K dQ ["flow"] []
  gQ : mg "_law_terms_right" = some (.ref fQ)
  kQ : PySem.W.keepIn K (.ref fQ) = true
  okK : FnOk P w K mg base CX0 6 fK dK ["flow"] spConsts
  bK : Binds K dK ["flow"] []
  gK : mg "_law_constants_right" = some (.ref fK)
  kK : PySem.W.keepIn K (.ref fK) = true
section
variable {P : Program} {w : World} {K : PySem.W.Frag} {mg : Str → Option Value} {base : Heap} {fP fS fA fL fE fD fN fM fR fC fF fG fT fW fB fQ fK : Addr} {dP dS dA dL dE dD dN' dM dR dC dF dG dT dW dB dQ dK : FuncData}
theorem scLaw : FnScope ["script", "flow", "names", "one", "other", "third", "due", "first", "second", "last"] ["script"] (defScope sLaw) := ⟨rfl, rfl, rfl, by decide +kernel, rfl, by decide +kernel, by decide +kernel⟩
theorem ok_law {f : Addr} {fd : FuncData} (F : Fun K "law" "law" sLaw f fd) (T : TwoTxt P w K mg base fP fS fA fL fE dP dS dA dL dE) (U : BndTxt P w K mg base fD fN fM fR fC dD dN' dM dR dC) (L : LawTxt P w K mg base fF fG fT fW fB fQ fK dF dG dT dW dB dQ dK) : FnOk P w K mg base CX0 8 f fd ["script"] (spLaw K) := by
  refine F.ok scLaw (fun vs H Q E h => ?_) (fun cdv A outer s H vs Q E hr h => ?_)
  · obtain ⟨a, ns, rfl, _⟩ := h
    rfl
  · obtain ⟨a, nn, rfl, hS, go⟩ := h
    have h1 : Room 1 _ := hr.mono (by decide)
    have h2 : Room 2 _ := hr.mono (by decide)
    have h3 : Room 3 _ := hr.mono (by decide)
    have h4 : Room 4 _ := hr.mono (by decide)
    have h5 : Room 5 _ := hr.mono (by decide)
    have h6 : Room 6 _ := hr.mono (by decide)
    refine ⟨_, pss_cons (ps_set (i := 1) scLaw.nd rfl (Or.inl rfl) (pe_call L.okF h1 rfl L.gF L.kF L.bF .nil pass0 (pa_cons (pv 0) pa_nil)))
      (pss_cons (ps_set (i := 2) scLaw.nd rfl (Or.inl rfl) (pe_call L.okG h3 rfl L.gG L.kG L.bG .nil pass0 (pa_cons (pv 1) pa_nil)))
      (pss_cons (ps_set (i := 3) scLaw.nd rfl (Or.inl rfl) (pe_call L.okT h4 rfl L.gT L.kT L.bT .nil pass0 (pa_cons (pv 1) (pa_cons (pv 2) (pa_cons pe_nnew pa_nil)))))
      (pss_cons (ps_set (i := 4) scLaw.nd rfl (Or.inl rfl) (pe_call L.okT h4 rfl L.gT L.kT L.bT .nil pass0 (pa_cons (pv 1) (pa_cons (pv 2) (pa_cons (pv 3) pa_nil)))))
      (pss_cons (ps_set (i := 5) scLaw.nd rfl (Or.inl rfl) (pe_call L.okT h4 rfl L.gT L.kT L.bT .nil pass0 (pa_cons (pv 1) (pa_cons (pv 2) (pa_cons (pv 4) pa_nil)))))
      (pss_cons (ps_if (PW.pt (pw_or (pt_not (pt_val (pe_call L.okW h6 rfl L.gW L.kW L.bW .nil pass0 (pa_cons (pv 3) (pa_cons (pv 4) pa_nil)))))
          (pw_or1 (pt_not (pt_val (pe_call L.okW h6 rfl L.gW L.kW L.bW .nil pass0 (pa_cons (pv 4) (pa_cons (pv 5) pa_nil)))))))) (pss_one (ps_ret pe_bl)) pss_nil)
      (pss_cons (ps_set (i := 6) scLaw.nd rfl (Or.inl rfl) (pe_call T.okP h2 rfl T.gP T.kP T.bP .nil pass0 (pa_cons (pe_call T.okS h1 rfl T.gS T.kS T.bS .nil pass0 (pa_cons (pe_call T.okS h1 rfl T.gS T.kS T.bS .nil pass0 (pa_cons (pv 3) (pa_cons (pv 4) (pa_cons pe_int pa_nil)))) (pa_cons (pv 5) (pa_cons pe_int pa_nil)))) pa_nil)))
      (pss_cons (ps_set (i := 7) scLaw.nd rfl (Or.inl rfl) (pe_call T.okP h2 rfl T.gP T.kP T.bP .nil pass0 (pa_cons (pv 3) pa_nil)))
      (pss_cons (ps_set (i := 8) scLaw.nd rfl (Or.inl rfl) (pe_call T.okP h2 rfl T.gP T.kP T.bP .nil pass0 (pa_cons (pv 4) pa_nil)))
      (pss_cons (ps_set (i := 9) scLaw.nd rfl (Or.inl rfl) (pe_call T.okP h2 rfl T.gP T.kP T.bP .nil pass0 (pa_cons (pv 5) pa_nil)))
      (pss_cons (ps_if (PW.pt (pw_or (pt_not (pt_val (pe_call T.okE h5 rfl T.gE T.kE T.bE .nil pass0 (pa_cons (pe_call T.okA h3 rfl T.gA T.kA T.bA .nil pass0 (pa_cons (pe_call T.okA h3 rfl T.gA T.kA T.bA .nil pass0 (pa_cons (pv 7) (pa_cons (pv 8) pa_nil))) (pa_cons (pv 9) pa_nil))) (pa_cons (pv 6) pa_nil)))))
          (pw_or1 (pt_not (pt_val (pe_call T.okE h5 rfl T.gE T.kE T.bE .nil pass0 (pa_cons (pe_call T.okA h3 rfl T.gA T.kA T.bA .nil pass0 (pa_cons (pv 7) (pa_cons (pe_call T.okA h3 rfl T.gA T.kA T.bA .nil pass0 (pa_cons (pv 8) (pa_cons (pv 9) pa_nil))) pa_nil))) (pa_cons (pv 6) pa_nil)))))))) (pss_one (ps_ret pe_bl)) pss_nil)
      (pss_cons (ps_if (PW.pt (pw_and (pt_cmpR op_eq (pe_call U.okD h2 rfl U.gD U.kD U.bD .nil pass0 (pa_cons (pv 1) (pa_cons pe_int pa_nil))) pe_int (nomark _))
          (pw_and1 (pt_not (pt_val (pe_call L.okB hr rfl L.gB L.kB L.bB .nil pass0 (pa_cons (pv 1) (pa_cons (pv 2) pa_nil)))))))) (pss_one (ps_ret pe_bl)) pss_nil)
      (pss_cons (ps_if (PW.pt (pw_and (pt_cmpR op_eq (pe_call U.okD h2 rfl U.gD U.kD U.bD .nil pass0 (pa_cons (pv 1) (pa_cons pe_int pa_nil))) pe_int (nomark _))
          (pw_and1 (pt_not (pt_val (pe_call L.okQ hr rfl L.gQ L.kQ L.bQ .nil pass0 (pa_cons (pv 1) pa_nil))))))) (pss_one (ps_ret pe_bl)) pss_nil)
      (pss_one (ps_ret (pe_call L.okK h6 rfl L.gK L.kK L.bK .nil pass0 (pa_cons (pv 1) pa_nil)))))))))))))))), ?_⟩
    have sl : (16777216 : Nat) = sizeLine := sizeLine_eq.symm
    refine ⟨_, rfl, a, nn, rfl, hS, fun G1 p s1 p0 f1 => ?_⟩
    refine ⟨_, rfl, p, rfl, f1, fun l ns G2 f2 b2 hl nl ok => ?_⟩
    have lp := flow_ne_str f2 hl
    refine ⟨_, rfl, _, rfl, fun d0 n0 => ?_⟩
    have s3 : Same G2 (upd G2 d0 (dN w d0 [])) := fun a o e => (upd_ne (ne_of_none e n0)).trans e
    have D0 : DictI K w (upd G2 d0 (dN w d0 [])) d0 [] := ⟨[], upd_same, (fun x hx => by cases hx), rfl, List.nodup_nil⟩
    have t0 : TabI 0 [] := ⟨(fun x hx => nomatch hx), (fun x hx => nomatch hx), (fun x hx => nomatch hx), (fun x hx => nomatch hx), Nat.le_refl _, (fun x hx => nomatch hx)⟩
    have f3 := flow_same f2 s3
    have l3 := s3 _ _ hl
    refine ⟨p, l, d0, ns, 0, [], rfl, f3, l3, nl, ok, D0, t0, by decide, fun d1 m1 G4 f4 b4 _ D1 t1 => ?_⟩
    have l4 := b4 _ _ lp l3
    refine ⟨_, rfl, _, rfl, _, rfl, p, l, d1, ns, 0 + 5, m1, rfl, f4, l4, nl, ok, D1, t1, by decide, fun d2 m2 G5 f5 b5 _ D2 t2 => ?_⟩
    have l5 := b5 _ _ lp l4
    have D1 := b5.dict f4 D1
    refine ⟨_, rfl, _, rfl, _, rfl, p, l, d2, ns, 0 + 5 + 5, m2, rfl, f5, l5, nl, ok, D2, t2, by decide, fun d3 m3 G6 f6 b6 _ D3 t3 => ?_⟩
    have l6 := b6 _ _ lp l5
    have D1 := b6.dict f5 D1
    have D2 := b6.dict f5 D2
    clear f1 f2 f3 f4 f5 b2 b4 b5 b6 l3 l4 l5 s3 D0 t0
    have t1 := t1.mono (show _ ≤ 100 by decide)
    have t2 := t2.mono (show _ ≤ 100 by decide)
    have t3 := t3.mono (show _ ≤ 100 by decide)
    refine ⟨_, rfl, _, rfl, d1, d2, m1, m2, rfl, D1, D2, t1, t2, fun G7 s7 => ⟨true, rfl, ifN rfl ?_⟩⟩
    refine ⟨_, rfl, _, rfl, d2, d3, m2, m3, rfl, D2.up s7, D3.up s7, t2, t3, fun G8 s8 => ⟨true, rfl, ifN rfl ?_⟩⟩
    have sg : Same G6 G8 := fun a o e => s8 a o (s7 a o e)
    have D1 := D1.up sg
    have D2 := D2.up sg
    have D3 := D3.up sg
    have f8 := flow_same f6 sg
    have l8 := sg _ _ l6
    clear s7 s8 sg f6 l6
    have e1 : (keysI m1).Nodup := let ⟨_, _, _, _, q⟩ := D1; q
    have e2 : (keysI m2).Nodup := let ⟨_, _, _, _, q⟩ := D2; q
    have e3 : (keysI m3).Nodup := let ⟨_, _, _, _, q⟩ := D3; q
    have L1 := t1.len
    have L2' := t2.len
    have L3 := t3.len
    have p1 := t1.pol e1
    have p2 := t2.pol e2
    have p3 := t3.pol e3
    have ls1 : (sumI m1 m2 1).length ≤ 200 := Nat.le_trans len_sum (by omega)
    have ls2 : (sumI (sumI m1 m2 1) m3 1).length ≤ 300 := Nat.le_trans len_sum (by omega)
    have mS := monsI_sum (s := 1) t1.mo t2.mo
    have mS2 := monsI_sum (s := 1) mS t3.mo
    have nS : (keysI (sumI (sumI m1 m2 1) m3 1)).Nodup := nodup_sum (nodup_sum e1)
    -- due
    refine ⟨_, rfl, _, rfl, d1, d2, 1, m1, m2, rfl, by decide, by decide, D1, D2, t1.mo, t2.mo, by omega, fun q9 G9 s9 _ D9 => ?_⟩
    refine ⟨_, rfl, q9, d3, 1, _, m3, rfl, by decide, by decide, D9, D3.up s9, mS, t3.mo, by omega, fun q10 G10 s10 _ D10 => ?_⟩
    refine ⟨q10, _, rfl, D10, mS2, layI_sum (layI_sum t1.la t2.la) t3.la, by omega, fun due G11 s11 Q11 => ?_⟩
    have sg : Same G8 G11 := fun a o e => s11 a o (s10 a o (s9 a o e))
    have D1 := D1.up sg
    have D2 := D2.up sg
    have D3 := D3.up sg
    have f11 := flow_same f8 sg
    have l11 := sg _ _ l8
    clear s9 s10 s11 D9 D10 sg f8 l8
    -- first, second, last
    refine ⟨_, rfl, d1, m1, rfl, D1, t1.mo, t1.la, by omega, fun r1 G12 s12 Q12 => ?_⟩
    rw [nzI_id t1.nz] at Q12
    refine ⟨_, rfl, d2, m2, rfl, D2.up s12, t2.mo, t2.la, by omega, fun r2 G13 s13 Q13 => ?_⟩
    rw [nzI_id t2.nz] at Q13
    refine ⟨_, rfl, d3, m3, rfl, (D3.up s12).up s13, t3.mo, t3.la, by omega, fun r3 G14 s14 Q14 => ?_⟩
    rw [nzI_id t3.nz] at Q14
    have sg : Same G11 G14 := fun a o e => s14 a o (s13 a o (s12 a o e))
    have Q11 := Q11.up (same_tups sg)
    have Q12 := (Q12.up (same_tups s13)).up (same_tups s14)
    have Q13 := Q13.up (same_tups s14)
    have f14 := flow_same f11 sg
    have l14 := sg _ _ l11
    clear s12 s13 s14 sg D1 D2 D3 f11 l11
    -- the sums
    have p12 := (p1.plus p2).rise
    have p123 := p12.plus p3
    have p23 := (p2.plus p3).rise
    have p1_23 := p1.plus p23
    have nd12 := (p1.plus p2).nd
    have nd23 := (p2.plus p3).nd
    have vd : ∀ k, v0 (nzI (sumI (sumI m1 m2 1) m3 1)) k = v0 m1 k + v0 m2 k + v0 m3 k := fun k => by
      rw [v0_nzI nS, v0_sum e3, v0_sum e2]; omega
    have eA : riseI (plusI (riseI (plusI (riseI m1) (riseI m2))) (riseI m3)) = riseI (nzI (sumI (sumI m1 m2 1) m3 1)) :=
      rise_ext0 p123.mo (mons_nzI mS2) p123.nd (nodup_nzI nS) p123.nz (nz_nzI _) fun k => by
        rw [vd, v0_plus p3.nd, v0_rise nd12, v0_plus p2.nd, v0_rise e1, v0_rise e2, v0_rise e3]
    have eB : riseI (plusI (riseI m1) (riseI (plusI (riseI m2) (riseI m3)))) = riseI (nzI (sumI (sumI m1 m2 1) m3 1)) :=
      rise_ext0 p1_23.mo (mons_nzI mS2) p1_23.nd (nodup_nzI nS) p1_23.nz (nz_nzI _) fun k => by
        rw [vd, v0_plus p23.nd, v0_rise nd23, v0_plus p3.nd, v0_rise e1, v0_rise e2, v0_rise e3]; omega
    have g1 := p1.len
    have g2 := p2.len
    have g3 := p3.len
    have g12 := p12.len
    have g23 := p23.len
    refine ⟨_, rfl, _, rfl, r1, r2, _, _, rfl, Q12, Q13, p1.sm, p2.sm, by omega, p2.nz, (p1.plus p2).fits (by decide) (by decide), fun r15 G15 s15 Q15 => ?_⟩
    refine ⟨_, rfl, r15, r3, _, _, rfl, Q15, Q14.up (same_tups s15), p12.sm, p3.sm, by omega, p3.nz, p123.fits (by decide) (by decide), fun r16 G16 s16 Q16 => ?_⟩
    have sg : Same G14 G16 := fun a o e => s16 a o (s15 a o e)
    refine ⟨_, rfl, _, _, rfl, poly_alike Q16 (Q11.up (same_tups sg)) eA p123.rise.sm (Nat.le_trans p123.rise.len (by omega)), fun G17 s17 => ⟨true, rfl, ifN rfl ?_⟩⟩
    have sg : Same G14 G17 := fun a o e => s17 a o (sg a o e)
    have Q11 := Q11.up (same_tups sg)
    have Q12 := Q12.up (same_tups sg)
    have Q13 := Q13.up (same_tups sg)
    have Q14 := Q14.up (same_tups sg)
    have f17 := flow_same f14 sg
    have l17 := sg _ _ l14
    clear s15 s16 s17 sg Q15 Q16 f14 l14
    refine ⟨_, rfl, _, rfl, _, rfl, r2, r3, _, _, rfl, Q13, Q14, p2.sm, p3.sm, by omega, p3.nz, (p2.plus p3).fits (by decide) (by decide), fun r18 G18 s18 Q18 => ?_⟩
    refine ⟨r1, r18, _, _, rfl, Q12.up (same_tups s18), Q18, p1.sm, p23.sm, by omega, p23.nz, p1_23.fits (by decide) (by decide), fun r19 G19 s19 Q19 => ?_⟩
    have sg : Same G17 G19 := fun a o e => s19 a o (s18 a o e)
    refine ⟨_, rfl, _, _, rfl, poly_alike Q19 (Q11.up (same_tups sg)) eB p1_23.rise.sm (Nat.le_trans p1_23.rise.len (by omega)), fun G20 s20 => ⟨true, rfl, ifN rfl ?_⟩⟩
    have sg : Same G17 G20 := fun a o e => s20 a o (sg a o e)
    have f20 := flow_same f17 sg
    have l20 := sg _ _ l17
    clear s18 s19 s20 sg Q18 Q19 Q11 Q12 Q13 Q14 f17 l17
    -- draw(flow, 8)
    obtain ⟨c, f20'⟩ := f20
    refine ⟨_, rfl, p, c, 8, rfl, f20', by decide +kernel, fun z xs z0 z1 f21 => ?_⟩
    have l21 : upd G20 p (.lst xs) l = some (.lst (ns.map V.str)) := (upd_ne lp).trans l20
    generalize upd G20 p (.lst xs) = G21 at f21 l21 ⊢
    refine ⟨rfl, _, rfl, ite2 (fun _ => ?wa) (fun _ => ?wb)⟩
    case' wa => refine ⟨_, rfl, _, rfl, p, l, ns, rfl, ⟨c, f21⟩, l21, nl, ok, fun G22 f22 b22 => ⟨true, rfl, ifN rfl ?_⟩⟩
    case' wb =>
      refine ifN rfl ?_
      have f22 : FlowAt G21 p := ⟨c, f21⟩
      generalize G21 = G22 at f22 ⊢
    all_goals
      obtain ⟨c2, f22'⟩ := f22
      refine ⟨_, rfl, p, c2, 16, rfl, f22', by decide +kernel, fun z2 xs2 y0 y1 f23 => ?_⟩
      generalize upd G22 p (.lst xs2) = G23 at f23 ⊢
      refine ⟨rfl, _, rfl, ite2 (fun _ => ?_) (fun _ => ?_)⟩
      · exact ⟨_, rfl, p, rfl, ⟨c2, f23⟩, fun G24 f24 => ⟨true, rfl, ifN rfl ⟨_, rfl, p, rfl, f24, fun G25 => go G25⟩⟩⟩
      · exact ifN rfl ⟨_, rfl, p, rfl, ⟨c2, f23⟩, fun G24 => go G24⟩
end
end K1P

set_option Elab.async false
set_option linter.all false
set_option maxRecDepth 100000
set_option maxHeartbeats 8000000
/-! What the top has written; the end. -/
namespace K1P
open PySem L2 K1D
/-- an own error class over the base at B, at C -/
structure ClsFacts (K : PySem.W.Frag) (B C f : Addr) (x fld : Str) : Prop where
  gC : PySem.W.nsIn K mainGlobals x = some (some (.ref C))
  xL : ∃ nm q N bs sn sub ab col dd k0 k1 k2 k3 k5, K.lookup C = some (excClassObj nm q C N bs [.ref B, .type "Exception", .type "BaseException", .type "object"] true sn sub ab col dd k0 k1 k2 k3 k5 "Exception.__new__")
  sa : PySem.W.findIn K (.ref C) "__setattr__" = some (some (.builtin "object.__setattr__"))
  ga : PySem.W.findIn K (.ref C) "__getattribute__" = some (some (.builtin "BaseException.__getattribute__"))
  gg : PySem.W.findIn K (.ref C) "__getattr__" = some none
  nb : PySem.W.findIn K (.ref C) fld = some none
  cc : PySem.W.findIn K (.ref C) "__class__" = some (some (.builtin "object.__class__"))
  iC : PySem.W.findIn K (.ref C) "__init__" = some (some (.ref f))
  tI : PySem.W.typeIn K (.ref f) = some (.type "function")
  kC : PySem.W.keepIn K (.ref C) = true
  tC : PySem.W.typeIn K (.ref C) = some (.type "type")
section
variable {K : PySem.W.Frag} {B C f : Addr} {x fld : Str}
def line (B C : Addr) : List Value := [.ref C, .ref B, .type "Exception", .type "BaseException", .type "object"]
theorem ClsFacts.cls (T : ClsFacts K B C f x fld) : ∃ cd, PySem.W.clsIn K C = some cd ∧ cd.mro = line B C ∧ cd.hasDict = true := by
  obtain ⟨nm, q, N, bs, sn, sub, ab, col, dd, k0, k1, k2, k3, k5, h⟩ := T.xL
  refine ⟨{ name := nm, bases := bs, mro := line B C, ns := N, qualname := q, hasDict := true, slotNames := sn, subclasses := sub, abstract := ab, collection := col, hasDel := false }, ?_, rfl, rfl⟩
  unfold PySem.W.clsIn
  rw [h]
  rfl
theorem ClsFacts.sub (T : ClsFacts K B C f x fld) (v : Value) : PySem.W.subIn K (.ref C) v = some ((line B C).contains v) := by
  obtain ⟨cd, h1, h2, _⟩ := T.cls
  show PySem.W.mroIn K C v = _
  unfold PySem.W.mroIn
  rw [h1, Option.bind_some, h2]
  rfl
theorem ClsFacts.err (T : ClsFacts K B C f x fld) : ErrC K C where
  cls := by
    obtain ⟨nm, q, N, bs, sn, sub, ab, col, dd, k0, k1, k2, k3, k5, h⟩ := T.xL
    exact ⟨nm, q, N, bs, _, sn, sub, ab, col, dd, k0, k1, k2, k3, k5, h, [B], rfl⟩
  sa := T.sa
  exC := (T.sub _).trans (by rfl)
  tyC := T.tC
  kC := T.kC
theorem ClsFacts.has (T : ClsFacts K B C f x fld) : PySem.W.hasDictIn K C = true := by
  obtain ⟨cd, h1, _, h3⟩ := T.cls
  unfold PySem.W.hasDictIn
  rw [h1]
  exact h3
theorem ClsFacts.xf (T : ClsFacts K B C f x fld) : XfC K C := ⟨T.ga, T.gg, (T.sub _).trans (by rfl), T.has⟩
theorem ClsFacts.ask (T : ClsFacts K B C f x fld) (g1 : PySem.W.specialIn K (.builtin "object.__class__") "__get__" = some (some (.builtin "getset_descriptor.__get__"))) (g2 : PySem.W.takesIn K (.builtin "object.__class__") = some true) : AskC K C where
  cl := by
    obtain ⟨cd, h1, _⟩ := T.cls
    rw [h1]
    rfl
  ga := T.ga
  gg := T.gg
  exC := (T.sub _).trans (by rfl)
  cls := T.cc
  get := g1
  tak := g2
  obj := (T.sub _).trans (by rfl)
theorem ref_bne {a b : Addr} (h : a ≠ b) : (Value.ref a == Value.ref b) = false := by simp [h]
theorem kit_of_cls {D : Addr} {b : Bool} (h1 : (PySem.W.clsIn K D).isSome = true) (h2 : PySem.W.typeIn K (.ref D) = some (.type "type")) (h3 : PySem.W.subIn K (.ref C) (.ref D) = some b) (h4 : C = D → b = true) : PySem.W.kitOne K (.ref C) (.ref D) = some b := by
  unfold PySem.W.kitOne
  by_cases e : C = D
  · subst e
    rw [if_pos (by simp), h4 rfl]
  · rw [if_neg (by simp [e])]
    show (if ((PySem.W.clsIn K D).isSome && PySem.W.typeIn K (.ref D) == some (.type "type")) = true then PySem.W.subIn K (.ref C) (.ref D) else none) = _
    rw [h1, h2, if_pos (by rfl), h3]
theorem exm_of_cls {D : Addr} {b : Bool} (h0 : PySem.W.subIn K (.ref D) (.type "BaseException") = some true) (h1 : (PySem.W.clsIn K D).isSome = true) (h2 : PySem.W.typeIn K (.ref D) = some (.type "type")) (h3 : PySem.W.subIn K (.ref C) (.ref D) = some b) : PySem.W.exmOne K (.ref C) (.ref D) = some b := by
  unfold PySem.W.exmOne
  rw [h0, if_pos (by rfl)]
  show (if ((PySem.W.clsIn K D).isSome && PySem.W.typeIn K (.ref D) == some (.type "type")) = true then PySem.W.subIn K (.ref C) (.ref D) else none) = _
  rw [h1, h2, if_pos (by rfl), h3]
theorem ClsFacts.other (T : ClsFacts K B C f x fld) {D : Addr} (hB : D ≠ B) : PySem.W.subIn K (.ref C) (.ref D) = some (decide (C = D)) := by
  rw [T.sub]
  by_cases e : C = D
  · subst e
    simp [line]
  · have e2 : ¬ D = C := fun z => e z.symm
    simp [line, e, e2, hB]
end
theorem great_of {p : Program} {n : Int} {mg : Str → Option Value} {h : Heap} (x : PySem.W.XL p [("TOO_GREAT", PySem.W.WData.int n)] mg h) (e : n = tooGreat) : ∃ t, mg "TOO_GREAT" = some (.int tooGreat t) := by
  obtain ⟨v, hv, r⟩ := x.2.val ("TOO_GREAT", PySem.W.WData.int n) (List.mem_singleton.mpr rfl)
  subst e
  cases r with
  | int i t => exact ⟨t, hv⟩
theorem all_mk {l : PySem.W.OpenLaw} {w : World} {K : PySem.W.Frag} {h : Heap} {mg : Str → Option Value} {fa B : Addr} (great : ∃ t, mg "TOO_GREAT" = some (.int tooGreat t)) (X : K.In h) (G : h.Ns mainGlobals mg) (hfa : mg "law" = some (.ref fa))
    {C f0 N0 : Addr} {nm0 q0 : Str} {bs0 sub0 : List Value} {sn0 : List Str} {ab0 : Bool} {col0 : Option Bool} {dd0 od0 an0 : Option Addr} {m0a m0b m0c m0d m0e : Option Value} {oc0 kV0 dc0 pm0 cd0 ct0 : Value} {sl0 : Array (Option Value)} {tMost : _}
    {Fnumber : Addr} {od_number an_number : Option Addr} {sl_number : Array (Option Value)} {oc_number kV_number dc_number pm_number cd_number ct_number : Value}
    {Fscaled : Addr} {od_scaled an_scaled : Option Addr} {sl_scaled : Array (Option Value)} {oc_scaled kV_scaled dc_scaled pm_scaled cd_scaled ct_scaled : Value}
    {Fplus : Addr} {od_plus an_plus : Option Addr} {sl_plus : Array (Option Value)} {oc_plus kV_plus dc_plus pm_plus cd_plus ct_plus : Value}
    {Fminus : Addr} {od_minus an_minus : Option Addr} {sl_minus : Array (Option Value)} {oc_minus kV_minus dc_minus pm_minus cd_minus ct_minus : Value}
    {Fconstant : Addr} {od_constant an_constant : Option Addr} {sl_constant : Array (Option Value)} {oc_constant kV_constant dc_constant pm_constant cd_constant ct_constant : Value}
    {Fadded : Addr} {od_added an_added : Option Addr} {sl_added : Array (Option Value)} {oc_added kV_added dc_added pm_added cd_added ct_added : Value}
    {Fless : Addr} {od_less an_less : Option Addr} {sl_less : Array (Option Value)} {oc_less kV_less dc_less pm_less cd_less ct_less : Value}
    {Fchk : Addr} {od_chk an_chk : Option Addr} {sl_chk : Array (Option Value)} {oc_chk kV_chk dc_chk pm_chk cd_chk ct_chk : Value}
    {Fby : Addr} {od_by an_by : Option Addr} {sl_by : Array (Option Value)} {oc_by kV_by dc_by pm_by cd_by ct_by : Value}
    {Fof : Addr} {od_of an_of : Option Addr} {sl_of : Array (Option Value)} {oc_of kV_of dc_of pm_of cd_of ct_of : Value}
    {Fflow : Addr} {od_flow an_flow : Option Addr} {sl_flow : Array (Option Value)} {oc_flow kV_flow dc_flow pm_flow cd_flow ct_flow : Value}
    {Fload : Addr} {od_load an_load : Option Addr} {sl_load : Array (Option Value)} {oc_load kV_load dc_load pm_load cd_load ct_load : Value}
    {Fdraw : Addr} {od_draw an_draw : Option Addr} {sl_draw : Array (Option Value)} {oc_draw kV_draw dc_draw pm_draw cd_draw ct_draw : Value}
    {Fsame : Addr} {od_same an_same : Option Addr} {sl_same : Array (Option Value)} {oc_same kV_same dc_same pm_same cd_same ct_same : Value}
    {Fnames : Addr} {od_names an_names : Option Addr} {sl_names : Array (Option Value)} {oc_names kV_names dc_names pm_names cd_names ct_names : Value}
    {Frising : Addr} {od_rising an_rising : Option Addr} {sl_rising : Array (Option Value)} {oc_rising kV_rising dc_rising pm_rising cd_rising ct_rising : Value}
    {Fmono : Addr} {od_mono an_mono : Option Addr} {sl_mono : Array (Option Value)} {oc_mono kV_mono dc_mono pm_mono cd_mono ct_mono : Value}
    {Fpoly : Addr} {od_poly an_poly : Option Addr} {sl_poly : Array (Option Value)} {oc_poly kV_poly dc_poly pm_poly cd_poly ct_poly : Value}
    {Fnum : Addr} {od_num an_num : Option Addr} {sl_num : Array (Option Value)} {oc_num kV_num dc_num pm_num cd_num ct_num : Value}
    {Ftable : Addr} {od_table an_table : Option Addr} {sl_table : Array (Option Value)} {oc_table kV_table dc_table pm_table cd_table ct_table : Value}
    {Fsum : Addr} {od_sum an_sum : Option Addr} {sl_sum : Array (Option Value)} {oc_sum kV_sum dc_sum pm_sum cd_sum ct_sum : Value}
    {Ftwo : Addr} {od_two an_two : Option Addr} {sl_two : Array (Option Value)} {oc_two kV_two dc_two pm_two cd_two ct_two : Value}
    {Fraised : Addr} {od_raised an_raised : Option Addr} {sl_raised : Array (Option Value)} {oc_raised kV_raised dc_raised pm_raised cd_raised ct_raised : Value}
    {Fbound : Addr} {od_bound an_bound : Option Addr} {sl_bound : Array (Option Value)} {oc_bound kV_bound dc_bound pm_bound cd_bound ct_bound : Value}
    {Fwide : Addr} {od_wide an_wide : Option Addr} {sl_wide : Array (Option Value)} {oc_wide kV_wide dc_wide pm_wide cd_wide ct_wide : Value}
    {Fterms : Addr} {od_terms an_terms : Option Addr} {sl_terms : Array (Option Value)} {oc_terms kV_terms dc_terms pm_terms cd_terms ct_terms : Value}
    {Fconsts : Addr} {od_consts an_consts : Option Addr} {sl_consts : Array (Option Value)} {oc_consts kV_consts dc_consts pm_consts cd_consts ct_consts : Value}
    {Flaw : Addr} {od_law an_law : Option Addr} {sl_law : Array (Option Value)} {oc_law kV_law dc_law pm_law cd_law ct_law : Value}
    (a0 : PySem.W.nsIn K mainGlobals "TooMany" = some (some (.ref C)))
    (x0 : K.lookup C = some (excClassObj nm0 q0 C N0 bs0 [.ref B, .type "Exception", .type "BaseException", .type "object"] true sn0 sub0 ab0 col0 dd0 m0a m0b m0c m0d m0e "Exception.__new__"))
    (s0 : PySem.W.findIn K (.ref C) "__setattr__" = some (some (.builtin "object.__setattr__")))
    (g0 : PySem.W.findIn K (.ref C) "__getattribute__" = some (some (.builtin "BaseException.__getattribute__")))
    (h0 : PySem.W.findIn K (.ref C) "__getattr__" = some none)
    (n0 : PySem.W.findIn K (.ref C) "word" = some none)
    (c0 : PySem.W.findIn K (.ref C) "__class__" = some (some (.builtin "object.__class__")))
    (i0 : PySem.W.findIn K (.ref C) "__init__" = some (some (.ref f0)))
    (t0 : PySem.W.typeIn K (.ref f0) = some (.type "function"))
    (l0 : K.lookup f0 = some ⟨oc0, od0, .func (PySem.W.fnOf "__init__" "TooMany.__init__" (defArgs sTooMany) (defBody sTooMany) (defScope sTooMany) .none kV0 dc0 pm0 an0 cd0 ct0), sl0⟩)
    (d0 : PySem.W.codeIn K cd0 "TooMany.__init__" = true)
    (k0 : PySem.W.keepIn K (.ref f0) = true)
    (kk0 : PySem.W.keepIn K (.ref C) = true)
    (T0 : PySem.W.typeIn K (.ref C) = some (.type "type"))
    (a_number : PySem.W.nsIn K mainGlobals "number" = some (some (.ref Fnumber)))
    (l_number : K.lookup Fnumber = some ⟨oc_number, od_number, .func (PySem.W.fnOf "number" "number" (defArgs sNumber) (defBody sNumber) (defScope sNumber) .none kV_number dc_number pm_number an_number cd_number ct_number), sl_number⟩)
    (c_number : PySem.W.codeIn K cd_number "number" = true)
    (k_number : PySem.W.keepIn K (.ref Fnumber) = true)
    (a_scaled : PySem.W.nsIn K mainGlobals "scaled" = some (some (.ref Fscaled)))
    (l_scaled : K.lookup Fscaled = some ⟨oc_scaled, od_scaled, .func (PySem.W.fnOf "scaled" "scaled" (defArgs sScaled) (defBody sScaled) (defScope sScaled) .none kV_scaled dc_scaled pm_scaled an_scaled cd_scaled ct_scaled), sl_scaled⟩)
    (c_scaled : PySem.W.codeIn K cd_scaled "scaled" = true)
    (k_scaled : PySem.W.keepIn K (.ref Fscaled) = true)
    (a_plus : PySem.W.nsIn K mainGlobals "plus" = some (some (.ref Fplus)))
    (l_plus : K.lookup Fplus = some ⟨oc_plus, od_plus, .func (PySem.W.fnOf "plus" "plus" (defArgs sPlus) (defBody sPlus) (defScope sPlus) .none kV_plus dc_plus pm_plus an_plus cd_plus ct_plus), sl_plus⟩)
    (c_plus : PySem.W.codeIn K cd_plus "plus" = true)
    (k_plus : PySem.W.keepIn K (.ref Fplus) = true)
    (a_minus : PySem.W.nsIn K mainGlobals "minus" = some (some (.ref Fminus)))
    (l_minus : K.lookup Fminus = some ⟨oc_minus, od_minus, .func (PySem.W.fnOf "minus" "minus" (defArgs sMinus) (defBody sMinus) (defScope sMinus) .none kV_minus dc_minus pm_minus an_minus cd_minus ct_minus), sl_minus⟩)
    (c_minus : PySem.W.codeIn K cd_minus "minus" = true)
    (k_minus : PySem.W.keepIn K (.ref Fminus) = true)
    (a_constant : PySem.W.nsIn K mainGlobals "constant" = some (some (.ref Fconstant)))
    (l_constant : K.lookup Fconstant = some ⟨oc_constant, od_constant, .func (PySem.W.fnOf "constant" "constant" (defArgs sConst) (defBody sConst) (defScope sConst) .none kV_constant dc_constant pm_constant an_constant cd_constant ct_constant), sl_constant⟩)
    (c_constant : PySem.W.codeIn K cd_constant "constant" = true)
    (k_constant : PySem.W.keepIn K (.ref Fconstant) = true)
    (a_added : PySem.W.nsIn K mainGlobals "added" = some (some (.ref Fadded)))
    (l_added : K.lookup Fadded = some ⟨oc_added, od_added, .func (PySem.W.fnOf "added" "added" (defArgs sAdded) (defBody sAdded) (defScope sAdded) .none kV_added dc_added pm_added an_added cd_added ct_added), sl_added⟩)
    (c_added : PySem.W.codeIn K cd_added "added" = true)
    (k_added : PySem.W.keepIn K (.ref Fadded) = true)
    (a_less : PySem.W.nsIn K mainGlobals "less" = some (some (.ref Fless)))
    (l_less : K.lookup Fless = some ⟨oc_less, od_less, .func (PySem.W.fnOf "less" "less" (defArgs sLess) (defBody sLess) (defScope sLess) .none kV_less dc_less pm_less an_less cd_less ct_less), sl_less⟩)
    (c_less : PySem.W.codeIn K cd_less "less" = true)
    (k_less : PySem.W.keepIn K (.ref Fless) = true)
    (a_chk : PySem.W.nsIn K mainGlobals "_check_limits" = some (some (.ref Fchk)))
    (l_chk : K.lookup Fchk = some ⟨oc_chk, od_chk, .func (PySem.W.fnOf "_check_limits" "_check_limits" (defArgs sCheck) (defBody sCheck) (defScope sCheck) .none kV_chk dc_chk pm_chk an_chk cd_chk ct_chk), sl_chk⟩)
    (c_chk : PySem.W.codeIn K cd_chk "_check_limits" = true)
    (k_chk : PySem.W.keepIn K (.ref Fchk) = true)
    (a_by : PySem.W.nsIn K mainGlobals "_by_monomials" = some (some (.ref Fby)))
    (l_by : K.lookup Fby = some ⟨oc_by, od_by, .func (PySem.W.fnOf "_by_monomials" "_by_monomials" (defArgs sBy) (defBody sBy) (defScope sBy) .none kV_by dc_by pm_by an_by cd_by ct_by), sl_by⟩)
    (c_by : PySem.W.codeIn K cd_by "_by_monomials" = true)
    (k_by : PySem.W.keepIn K (.ref Fby) = true)
    (a_of : PySem.W.nsIn K mainGlobals "_of_monomials" = some (some (.ref Fof)))
    (l_of : K.lookup Fof = some ⟨oc_of, od_of, .func (PySem.W.fnOf "_of_monomials" "_of_monomials" (defArgs sOf) (defBody sOf) (defScope sOf) .none kV_of dc_of pm_of an_of cd_of ct_of), sl_of⟩)
    (c_of : PySem.W.codeIn K cd_of "_of_monomials" = true)
    (k_of : PySem.W.keepIn K (.ref Fof) = true)
    (a_flow : PySem.W.nsIn K mainGlobals "_law_flow" = some (some (.ref Fflow)))
    (l_flow : K.lookup Fflow = some ⟨oc_flow, od_flow, .func (PySem.W.fnOf "_law_flow" "_law_flow" (defArgs K0.sFlow) (defBody K0.sFlow) (defScope K0.sFlow) .none kV_flow dc_flow pm_flow an_flow cd_flow ct_flow), sl_flow⟩)
    (c_flow : PySem.W.codeIn K cd_flow "_law_flow" = true)
    (k_flow : PySem.W.keepIn K (.ref Fflow) = true)
    (a_load : PySem.W.nsIn K mainGlobals "_law_load" = some (some (.ref Fload)))
    (l_load : K.lookup Fload = some ⟨oc_load, od_load, .func (PySem.W.fnOf "_law_load" "_law_load" (defArgs K0.sLoad) (defBody K0.sLoad) (defScope K0.sLoad) .none kV_load dc_load pm_load an_load cd_load ct_load), sl_load⟩)
    (c_load : PySem.W.codeIn K cd_load "_law_load" = true)
    (k_load : PySem.W.keepIn K (.ref Fload) = true)
    (a_draw : PySem.W.nsIn K mainGlobals "_law_draw" = some (some (.ref Fdraw)))
    (l_draw : K.lookup Fdraw = some ⟨oc_draw, od_draw, .func (PySem.W.fnOf "_law_draw" "_law_draw" (defArgs K0.sDraw) (defBody K0.sDraw) (defScope K0.sDraw) .none kV_draw dc_draw pm_draw an_draw cd_draw ct_draw), sl_draw⟩)
    (c_draw : PySem.W.codeIn K cd_draw "_law_draw" = true)
    (k_draw : PySem.W.keepIn K (.ref Fdraw) = true)
    (a_same : PySem.W.nsIn K mainGlobals "_law_same" = some (some (.ref Fsame)))
    (l_same : K.lookup Fsame = some ⟨oc_same, od_same, .func (PySem.W.fnOf "_law_same" "_law_same" (defArgs K0S.sSame) (defBody K0S.sSame) (defScope K0S.sSame) .none kV_same dc_same pm_same an_same cd_same ct_same), sl_same⟩)
    (c_same : PySem.W.codeIn K cd_same "_law_same" = true)
    (k_same : PySem.W.keepIn K (.ref Fsame) = true)
    (a_names : PySem.W.nsIn K mainGlobals "_law_names" = some (some (.ref Fnames)))
    (l_names : K.lookup Fnames = some ⟨oc_names, od_names, .func (PySem.W.fnOf "_law_names" "_law_names" (defArgs sNames) (defBody sNames) (defScope sNames) .none kV_names dc_names pm_names an_names cd_names ct_names), sl_names⟩)
    (c_names : PySem.W.codeIn K cd_names "_law_names" = true)
    (k_names : PySem.W.keepIn K (.ref Fnames) = true)
    (a_rising : PySem.W.nsIn K mainGlobals "_law_rising" = some (some (.ref Frising)))
    (l_rising : K.lookup Frising = some ⟨oc_rising, od_rising, .func (PySem.W.fnOf "_law_rising" "_law_rising" (defArgs sRising) (defBody sRising) (defScope sRising) .none kV_rising dc_rising pm_rising an_rising cd_rising ct_rising), sl_rising⟩)
    (c_rising : PySem.W.codeIn K cd_rising "_law_rising" = true)
    (k_rising : PySem.W.keepIn K (.ref Frising) = true)
    (a_mono : PySem.W.nsIn K mainGlobals "_law_monomial" = some (some (.ref Fmono)))
    (l_mono : K.lookup Fmono = some ⟨oc_mono, od_mono, .func (PySem.W.fnOf "_law_monomial" "_law_monomial" (defArgs sMon) (defBody sMon) (defScope sMon) .none kV_mono dc_mono pm_mono an_mono cd_mono ct_mono), sl_mono⟩)
    (c_mono : PySem.W.codeIn K cd_mono "_law_monomial" = true)
    (k_mono : PySem.W.keepIn K (.ref Fmono) = true)
    (a_poly : PySem.W.nsIn K mainGlobals "_law_poly" = some (some (.ref Fpoly)))
    (l_poly : K.lookup Fpoly = some ⟨oc_poly, od_poly, .func (PySem.W.fnOf "_law_poly" "_law_poly" (defArgs sPoly) (defBody sPoly) (defScope sPoly) .none kV_poly dc_poly pm_poly an_poly cd_poly ct_poly), sl_poly⟩)
    (c_poly : PySem.W.codeIn K cd_poly "_law_poly" = true)
    (k_poly : PySem.W.keepIn K (.ref Fpoly) = true)
    (a_num : PySem.W.nsIn K mainGlobals "_law_number" = some (some (.ref Fnum)))
    (l_num : K.lookup Fnum = some ⟨oc_num, od_num, .func (PySem.W.fnOf "_law_number" "_law_number" (defArgs sNum) (defBody sNum) (defScope sNum) .none kV_num dc_num pm_num an_num cd_num ct_num), sl_num⟩)
    (c_num : PySem.W.codeIn K cd_num "_law_number" = true)
    (k_num : PySem.W.keepIn K (.ref Fnum) = true)
    (a_table : PySem.W.nsIn K mainGlobals "_law_table" = some (some (.ref Ftable)))
    (l_table : K.lookup Ftable = some ⟨oc_table, od_table, .func (PySem.W.fnOf "_law_table" "_law_table" (defArgs sTable) (defBody sTable) (defScope sTable) .none kV_table dc_table pm_table an_table cd_table ct_table), sl_table⟩)
    (c_table : PySem.W.codeIn K cd_table "_law_table" = true)
    (k_table : PySem.W.keepIn K (.ref Ftable) = true)
    (a_sum : PySem.W.nsIn K mainGlobals "_law_sum" = some (some (.ref Fsum)))
    (l_sum : K.lookup Fsum = some ⟨oc_sum, od_sum, .func (PySem.W.fnOf "_law_sum" "_law_sum" (defArgs sSum) (defBody sSum) (defScope sSum) .none kV_sum dc_sum pm_sum an_sum cd_sum ct_sum), sl_sum⟩)
    (c_sum : PySem.W.codeIn K cd_sum "_law_sum" = true)
    (k_sum : PySem.W.keepIn K (.ref Fsum) = true)
    (a_two : PySem.W.nsIn K mainGlobals "_law_two_right" = some (some (.ref Ftwo)))
    (l_two : K.lookup Ftwo = some ⟨oc_two, od_two, .func (PySem.W.fnOf "_law_two_right" "_law_two_right" (defArgs sTwo) (defBody sTwo) (defScope sTwo) .none kV_two dc_two pm_two an_two cd_two ct_two), sl_two⟩)
    (c_two : PySem.W.codeIn K cd_two "_law_two_right" = true)
    (k_two : PySem.W.keepIn K (.ref Ftwo) = true)
    (a_raised : PySem.W.nsIn K mainGlobals "_law_raised" = some (some (.ref Fraised)))
    (l_raised : K.lookup Fraised = some ⟨oc_raised, od_raised, .func (PySem.W.fnOf "_law_raised" "_law_raised" (defArgs sRaised) (defBody sRaised) (defScope sRaised) .none kV_raised dc_raised pm_raised an_raised cd_raised ct_raised), sl_raised⟩)
    (c_raised : PySem.W.codeIn K cd_raised "_law_raised" = true)
    (k_raised : PySem.W.keepIn K (.ref Fraised) = true)
    (a_bound : PySem.W.nsIn K mainGlobals "_law_bound_right" = some (some (.ref Fbound)))
    (l_bound : K.lookup Fbound = some ⟨oc_bound, od_bound, .func (PySem.W.fnOf "_law_bound_right" "_law_bound_right" (defArgs sBound) (defBody sBound) (defScope sBound) .none kV_bound dc_bound pm_bound an_bound cd_bound ct_bound), sl_bound⟩)
    (c_bound : PySem.W.codeIn K cd_bound "_law_bound_right" = true)
    (k_bound : PySem.W.keepIn K (.ref Fbound) = true)
    (a_wide : PySem.W.nsIn K mainGlobals "_law_wide" = some (some (.ref Fwide)))
    (l_wide : K.lookup Fwide = some ⟨oc_wide, od_wide, .func (PySem.W.fnOf "_law_wide" "_law_wide" (defArgs sWide) (defBody sWide) (defScope sWide) .none kV_wide dc_wide pm_wide an_wide cd_wide ct_wide), sl_wide⟩)
    (c_wide : PySem.W.codeIn K cd_wide "_law_wide" = true)
    (k_wide : PySem.W.keepIn K (.ref Fwide) = true)
    (a_terms : PySem.W.nsIn K mainGlobals "_law_terms_right" = some (some (.ref Fterms)))
    (l_terms : K.lookup Fterms = some ⟨oc_terms, od_terms, .func (PySem.W.fnOf "_law_terms_right" "_law_terms_right" (defArgs sTerms) (defBody sTerms) (defScope sTerms) .none kV_terms dc_terms pm_terms an_terms cd_terms ct_terms), sl_terms⟩)
    (c_terms : PySem.W.codeIn K cd_terms "_law_terms_right" = true)
    (k_terms : PySem.W.keepIn K (.ref Fterms) = true)
    (a_consts : PySem.W.nsIn K mainGlobals "_law_constants_right" = some (some (.ref Fconsts)))
    (l_consts : K.lookup Fconsts = some ⟨oc_consts, od_consts, .func (PySem.W.fnOf "_law_constants_right" "_law_constants_right" (defArgs sConsts) (defBody sConsts) (defScope sConsts) .none kV_consts dc_consts pm_consts an_consts cd_consts ct_consts), sl_consts⟩)
    (c_consts : PySem.W.codeIn K cd_consts "_law_constants_right" = true)
    (k_consts : PySem.W.keepIn K (.ref Fconsts) = true)
    (a_law : PySem.W.nsIn K mainGlobals "law" = some (some (.ref Flaw)))
    (l_law : K.lookup Flaw = some ⟨oc_law, od_law, .func (PySem.W.fnOf "law" "law" (defArgs sLaw) (defBody sLaw) (defScope sLaw) .none kV_law dc_law pm_law an_law cd_law ct_law), sl_law⟩)
    (c_law : PySem.W.codeIn K cd_law "law" = true)
    (k_law : PySem.W.keepIn K (.ref Flaw) = true)
    (aB : PySem.W.nsIn K mainGlobals "FigureError" = some (some (.ref B)))
    (xB : PySem.W.isClsIn K B = true)
    (gB : PySem.W.specialIn K (.ref B) "__getattribute__" = some (some (.builtin "type.__getattribute__")))
    (rB : PySem.W.readsIn (mc := .type "type") K B = true)
    (iB : PySem.W.findCls K (.ref B) (.type "type") "__init__" = some (.val (.builtin "Exception.__init__")))
    (tB : PySem.W.typeIn K (.ref B) = some (.type "type"))
    (oG : PySem.W.specialIn K (.builtin "object.__class__") "__get__" = some (some (.builtin "getset_descriptor.__get__")))
    (oT : PySem.W.takesIn K (.builtin "object.__class__") = some true)
    (aMost : PySem.W.nsIn K mainGlobals "MOST_TERMS" = some (some (.int 2000 tMost)))
    (z_len : PySem.W.nsIn K mainGlobals "len" = some none)
    (z_int : PySem.W.nsIn K mainGlobals "int" = some none)
    (z_abs : PySem.W.nsIn K mainGlobals "abs" = some none)
    (z_max : PySem.W.nsIn K mainGlobals "max" = some none)
    (z_list : PySem.W.nsIn K mainGlobals "list" = some none)
    (z_isinstance : PySem.W.nsIn K mainGlobals "isinstance" = some none)
    (z_range : PySem.W.nsIn K mainGlobals "range" = some none)
    (z_tuple : PySem.W.nsIn K mainGlobals "tuple" = some none)
    (z_str : PySem.W.nsIn K mainGlobals "str" = some none)
    (z_bool : PySem.W.nsIn K mainGlobals "bool" = some none)
    (z_all : PySem.W.nsIn K mainGlobals "all" = some none)
    (z_any : PySem.W.nsIn K mainGlobals "any" = some none)
    (z_sorted : PySem.W.nsIn K mainGlobals "sorted" = some none) :
    ∃ fd : FuncData, (∀ (s : Shared) (v : Value), BindsTo s fd ⟨[v], []⟩ [("script", v)]) ∧ ∀ base : Heap, K.In base → base.Ns mainGlobals mg → FnOk l.prog w K mg base CX0 8 fa fd ["script"] (spLaw K) := by
  have e := hfa.symm.trans (PySem.W.mg_of X G a_law)
  cases e
  have E0 : ClsFacts K B C f0 "TooMany" "word" := ⟨a0, ⟨_, _, _, _, _, _, _, _, _, _, _, _, _, _, x0⟩, s0, g0, h0, n0, c0, i0, t0, kk0, T0⟩
  have F0 := fun_mk (st := sTooMany) l0 d0 k0
  have b0 := F0.binds (ps := ["self", "word"]) fun _ _ _ _ _ _ us hl => match us, hl with | [_, _], _ => rfl
  have Qnumber := fun_mk (st := sNumber) l_number c_number k_number
  have bnumber := Qnumber.binds (ps := ["k"]) fun _ _ _ _ _ _ us hl => match us, hl with | [_], _ => rfl
  have mnumber := PySem.W.mg_of X G a_number
  have Qscaled := fun_mk (st := sScaled) l_scaled c_scaled k_scaled
  have bscaled := Qscaled.binds (ps := ["p", "k"]) fun _ _ _ _ _ _ us hl => match us, hl with | [_, _], _ => rfl
  have mscaled := PySem.W.mg_of X G a_scaled
  have Qplus := fun_mk (st := sPlus) l_plus c_plus k_plus
  have bplus := Qplus.binds (ps := ["p", "q"]) fun _ _ _ _ _ _ us hl => match us, hl with | [_, _], _ => rfl
  have mplus := PySem.W.mg_of X G a_plus
  have Qminus := fun_mk (st := sMinus) l_minus c_minus k_minus
  have bminus := Qminus.binds (ps := ["p", "q"]) fun _ _ _ _ _ _ us hl => match us, hl with | [_, _], _ => rfl
  have mminus := PySem.W.mg_of X G a_minus
  have Qconstant := fun_mk (st := sConst) l_constant c_constant k_constant
  have bconstant := Qconstant.binds (ps := ["k"]) fun _ _ _ _ _ _ us hl => match us, hl with | [_], _ => rfl
  have mconstant := PySem.W.mg_of X G a_constant
  have Qadded := fun_mk (st := sAdded) l_added c_added k_added
  have badded := Qadded.binds (ps := ["p", "q"]) fun _ _ _ _ _ _ us hl => match us, hl with | [_, _], _ => rfl
  have madded := PySem.W.mg_of X G a_added
  have Qless := fun_mk (st := sLess) l_less c_less k_less
  have bless := Qless.binds (ps := ["p", "q"]) fun _ _ _ _ _ _ us hl => match us, hl with | [_, _], _ => rfl
  have mless := PySem.W.mg_of X G a_less
  have Qchk := fun_mk (st := sCheck) l_chk c_chk k_chk
  have bchk := Qchk.binds (ps := ["table"]) fun _ _ _ _ _ _ us hl => match us, hl with | [_], _ => rfl
  have mchk := PySem.W.mg_of X G a_chk
  have Qby := fun_mk (st := sBy) l_by c_by k_by
  have bby := Qby.binds (ps := ["p"]) fun _ _ _ _ _ _ us hl => match us, hl with | [_], _ => rfl
  have mby := PySem.W.mg_of X G a_by
  have Qof := fun_mk (st := sOf) l_of c_of k_of
  have bof := Qof.binds (ps := ["table"]) fun _ _ _ _ _ _ us hl => match us, hl with | [_], _ => rfl
  have mof := PySem.W.mg_of X G a_of
  have Qflow := fun_mk (st := K0.sFlow) l_flow c_flow k_flow
  have bflow := Qflow.binds (ps := ["script"]) fun _ _ _ _ _ _ us hl => match us, hl with | [_], _ => rfl
  have mflow := PySem.W.mg_of X G a_flow
  have Qload := fun_mk (st := K0.sLoad) l_load c_load k_load
  have bload := Qload.binds (ps := ["flow"]) fun _ _ _ _ _ _ us hl => match us, hl with | [_], _ => rfl
  have mload := PySem.W.mg_of X G a_load
  have Qdraw := fun_mk (st := K0.sDraw) l_draw c_draw k_draw
  have bdraw := Qdraw.binds (ps := ["flow", "many"]) fun _ _ _ _ _ _ us hl => match us, hl with | [_, _], _ => rfl
  have mdraw := PySem.W.mg_of X G a_draw
  have Qsame := fun_mk (st := K0S.sSame) l_same c_same k_same
  have bsame := Qsame.binds (ps := ["actual", "due"]) fun _ _ _ _ _ _ us hl => match us, hl with | [_, _], _ => rfl
  have msame := PySem.W.mg_of X G a_same
  have Qnames := fun_mk (st := sNames) l_names c_names k_names
  have bnames := Qnames.binds (ps := ["flow"]) fun _ _ _ _ _ _ us hl => match us, hl with | [_], _ => rfl
  have mnames := PySem.W.mg_of X G a_names
  have Qrising := fun_mk (st := sRising) l_rising c_rising k_rising
  have brising := Qrising.binds (ps := ["things"]) fun _ _ _ _ _ _ us hl => match us, hl with | [_], _ => rfl
  have mrising := PySem.W.mg_of X G a_rising
  have Qmono := fun_mk (st := sMon) l_mono c_mono k_mono
  have bmono := Qmono.binds (ps := ["flow", "names", "greatest"]) fun _ _ _ _ _ _ us hl => match us, hl with | [_, _, _], _ => rfl
  have mmono := PySem.W.mg_of X G a_mono
  have Qpoly := fun_mk (st := sPoly) l_poly c_poly k_poly
  have bpoly := Qpoly.binds (ps := ["table"]) fun _ _ _ _ _ _ us hl => match us, hl with | [_], _ => rfl
  have mpoly := PySem.W.mg_of X G a_poly
  have Qnum := fun_mk (st := sNum) l_num c_num k_num
  have bnum := Qnum.binds (ps := ["flow"]) fun _ _ _ _ _ _ us hl => match us, hl with | [_], _ => rfl
  have mnum := PySem.W.mg_of X G a_num
  have Qtable := fun_mk (st := sTable) l_table c_table k_table
  have btable := Qtable.binds (ps := ["flow", "names", "other"]) fun _ _ _ _ _ _ us hl => match us, hl with | [_, _, _], _ => rfl
  have mtable := PySem.W.mg_of X G a_table
  have Qsum := fun_mk (st := sSum) l_sum c_sum k_sum
  have bsum := Qsum.binds (ps := ["one", "other", "sign"]) fun _ _ _ _ _ _ us hl => match us, hl with | [_, _, _], _ => rfl
  have msum := PySem.W.mg_of X G a_sum
  have Qtwo := fun_mk (st := sTwo) l_two c_two k_two
  have btwo := Qtwo.binds (ps := ["one", "other"]) fun _ _ _ _ _ _ us hl => match us, hl with | [_, _], _ => rfl
  have mtwo := PySem.W.mg_of X G a_two
  have Qraised := fun_mk (st := sRaised) l_raised c_raised k_raised
  have braised := Qraised.binds (ps := ["one", "other", "minus_v"]) fun _ _ _ _ _ _ us hl => match us, hl with | [_, _, _], _ => rfl
  have mraised := PySem.W.mg_of X G a_raised
  have Qbound := fun_mk (st := sBound) l_bound c_bound k_bound
  have bbound := Qbound.binds (ps := ["flow", "names"]) fun _ _ _ _ _ _ us hl => match us, hl with | [_, _], _ => rfl
  have mbound := PySem.W.mg_of X G a_bound
  have Qwide := fun_mk (st := sWide) l_wide c_wide k_wide
  have bwide := Qwide.binds (ps := ["letter", "many"]) fun _ _ _ _ _ _ us hl => match us, hl with | [_, _], _ => rfl
  have mwide := PySem.W.mg_of X G a_wide
  have Qterms := fun_mk (st := sTerms) l_terms c_terms k_terms
  have bterms := Qterms.binds (ps := ["flow"]) fun _ _ _ _ _ _ us hl => match us, hl with | [_], _ => rfl
  have mterms := PySem.W.mg_of X G a_terms
  have Qconsts := fun_mk (st := sConsts) l_consts c_consts k_consts
  have bconsts := Qconsts.binds (ps := ["flow"]) fun _ _ _ _ _ _ us hl => match us, hl with | [_], _ => rfl
  have mconsts := PySem.W.mg_of X G a_consts
  have Qlaw := fun_mk (st := sLaw) l_law c_law k_law
  refine ⟨PySem.W.fnOf "law" "law" (defArgs sLaw) (defBody sLaw) (defScope sLaw) .none kV_law dc_law pm_law an_law cd_law ct_law, fun s v => .of_eq rfl, fun base _ _ => ?_⟩
  have mz : ∀ {x : Str}, PySem.W.nsIn K mainGlobals x = some none → mg x = none := fun q => PySem.W.mg_none_of X G q
  have clB : (PySem.W.clsIn K B).isSome = true := xB
  have mB := PySem.W.mg_of X G aB
  have clC : (PySem.W.clsIn K C).isSome = true := by
    obtain ⟨cd, q, _⟩ := E0.cls
    rw [q]
    rfl
  have U : ManyTxt l.prog w K mg base B C f0 _ := ⟨PySem.W.mg_of X G a0, E0.err, i0, t0, n0, b0, iniTooMany F0 ⟨gB, rB, iB⟩ mB, mB,
    exm_of_cls E0.err.exC clC T0 ((E0.sub _).trans (by simp [line])), kit_of_cls clB tB ((E0.sub _).trans (by simp [line])) (fun _ => rfl), E0.ask oG oT, E0.xf⟩
  have TF : K0.FlowTxt mg Fload Fdraw K := ⟨mz z_len, mz z_int, mz z_abs, mz z_max, mz z_list, mload, k_load, mdraw, k_draw⟩
  have GD : FnOk l.prog w K mg base CX0 2 Fdraw _ ["flow", "many"] K0.spDraw := K0.ok_draw Qdraw Qload bload TF
  have GF : FnOk l.prog w K mg base CX0 1 Fflow _ ["script"] (K0.spFlow K) := K0.ok_flow Qflow TF
  have TS : K0S.SameTxt K mg Fsame := ⟨mz z_isinstance, mz z_tuple, mz z_list, mz z_str, mz z_bool, mz z_int, mz z_len, mz z_all, mz z_range, msame, k_same⟩
  have GS : FnOk l.prog w K mg base CX0 5 Fsame _ ["actual", "due"] (K0S.spSame 4) := K0S.ok_sameS Qsame bsame TS (K0S.ok_sameS Qsame bsame TS (K0S.ok_sameS Qsame bsame TS (K0S.ok_sameS Qsame bsame TS (K0S.ok_same0 Qsame TS))))
  have TM : LimTxt K mg := ⟨mz z_len, mz z_any, mz z_abs, mz z_tuple, mz z_sorted, ⟨_, PySem.W.mg_of X G aMost⟩, great⟩
  have Gnum := ok_number (P := l.prog) (w := w) (mg := mg) (base := base) Qnumber
  have Gsca := ok_scaled (P := l.prog) (w := w) (mg := mg) (base := base) Qscaled
  have Gplu := ok_plus (P := l.prog) (w := w) (mg := mg) (base := base) Qplus
  have Gmin := ok_minus Qminus Gplu bplus mplus k_plus Gsca bscaled mscaled k_scaled
  have Gchk := ok_check (P := l.prog) (w := w) (base := base) Qchk TM
  have GchkK := ok_checkK (P := l.prog) (w := w) (base := base) Qchk TM
  have Gof := ok_of Qof TM Gchk bchk mchk k_chk
  have Gcon := ok_const Qconstant TM Gnum bnumber mnumber k_number GchkK bchk mchk k_chk
  have Gby := ok_by (P := l.prog) (w := w) (base := base) Qby (mz z_tuple)
  have TA : AddTxt l.prog w K mg base Fby Fplus Fminus Fof _ _ _ _ := ⟨Gby, bby, mby, k_by, Gplu, bplus, mplus, k_plus, Gmin, bminus, mminus, k_minus, Gof, bof, mof, k_of⟩
  have Gadd := ok_added Qadded TA
  have Gles := ok_less Qless TA
  have GchkB := ok_checkBad Qchk TM U
  have GofB := ok_ofBad Qof TM GchkB bchk mchk k_chk
  have GaddB := ok_addedBad Qadded TA GofB
  have GlesB := ok_lessBad Qless TA GofB
  have TR : RaisedTxt l.prog w K mg base C Fadded Fless _ _ := ⟨mz z_isinstance, GaddB, badded, madded, k_added, GlesB, bless, mless, k_less⟩
  have Grai := ok_raised Qraised U TR
  have Gris := ok_rising (P := l.prog) (w := w) (base := base) Qrising (mz z_len)
  have Gpol := ok_poly Qpoly ⟨mz z_tuple, mz z_list, mrising, k_rising⟩ Gris brising
  have Gsum := ok_sum (P := l.prog) (w := w) (base := base) Qsum (mz z_list)
  have GnumL := ok_num Qnum ⟨mdraw, k_draw⟩ GD bdraw
  have Gmon := ok_mon Qmono ⟨mdraw, k_draw⟩ (mz z_tuple) GD bdraw
  have Gnam := ok_names Qnames ⟨mdraw, k_draw, mrising, k_rising, mz z_range⟩ GD bdraw Gris brising
  have Gtab := ok_table Qtable ⟨mdraw, k_draw, mnum, k_num, mmono, k_mono, mz z_range, mz z_list⟩ GD bdraw GnumL bnum Gmon bmono
  have TT : TwoTxt l.prog w K mg base Fpoly Fsum Fadded Fless Fsame _ _ _ _ _ := ⟨Gpol, bpoly, mpoly, k_poly, Gsum, bsum, msum, k_sum, Gadd, badded, kb_rev Qadded (fun _ _ _ _ _ _ _ _ => rfl), madded, k_added,
    Gles, bless, kb_rev Qless (fun _ _ _ _ _ _ _ _ => rfl), mless, k_less, GS, bsame, msame, k_same⟩
  have TB : BndTxt l.prog w K mg base Fdraw Fnum Fmono Fraised Fconstant _ _ _ _ _ := ⟨GD, bdraw, mdraw, k_draw, GnumL, bnum, mnum, k_num, Gmon, bmono, mmono, k_mono, Grai, braised, mraised, k_raised,
    Gcon, bconstant, kb_one Qconstant (fun _ _ _ _ _ _ _ => rfl), mconstant, k_constant⟩
  have TW : WideTxt mg := ⟨mz z_tuple, mz z_range, mz z_len⟩
  have Gwid := ok_wide (P := l.prog) (w := w) (base := base) Qwide TW
  have Gter := ok_terms Qterms TT TB TW Gwid bwide mwide k_wide
  have Gtwo := ok_two Qtwo TT
  have Gbou := ok_bound Qbound TT TB
  have Gcns := ok_consts Qconsts TT TB
  exact ok_law Qlaw TT TB ⟨GF, bflow, mflow, k_flow, Gnam, bnames, mnames, k_names, Gtab, btable, mtable, k_table, Gtwo, btwo, mtwo, k_two, Gbou, bbound, mbound, k_bound, Gter, bterms, mterms, k_terms, Gcns, bconsts, mconsts, k_consts⟩
end K1P

set_option Elab.async false
set_option linter.all false
set_option maxRecDepth 100000
namespace K1P
open PySem L2
theorem walk {l : PySem.W.OpenLaw} {q : Program} {loose : List Str} {XP : (Str → Option Value) → Heap → Prop} {YP : World → Heap → Prop} {d : DefRec} {K : Params → PySem.W.Frag} (hn : l.most = some 63) (hdf : d.params.defaults = [])
    (hY : ∀ (w : World) (h : Heap), YP w h → (K w.params).In h)
    (F : ∀ (w : World) (mg : Str → Option Value) (fa : Addr) (h : Heap), XP mg h → (K w.params).In h → h.Ns mainGlobals mg → mg d.name = some (.ref fa) →
      ∃ fd : FuncData, (∀ (s : Shared) (u : Value), BindsTo s fd ⟨[u], []⟩ [("script", u)]) ∧ ∀ base : Heap, (K w.params).In base → base.Ns mainGlobals mg → FnOk l.prog w (K w.params) mg base CX0 8 fa fd ["script"] (spLaw (K w.params))) :
    PySem.W.WalkO q loose XP YP l.row.toRowW d [] (fun f vs => PySem.call f vs) := by
  refine Att.attach_call hn hdf fun w s₀ s₁ mg mb fa o pm cd doc a vs ns GG Y ho hd hcd hmg hobj hints hlen hg => ?_
  have KX := hY w _ Y
  obtain ⟨fd, hb, hF⟩ := F w mg fa _ GG.X KX GG.T.g hmg
  exact law_call (k := 8) KX GG.T.g GG.T.b GG.T.builtins GG.T.nolimit hg hobj hints (Nat.le_trans hlen (by decide)) ⟨rfl, by decide, by decide⟩ hF hb (fun H hO hS => ⟨a, ns, rfl, hS, fun _ => rfl⟩) fun _ _ _ z => z
end K1P
open PySem PySem.W PyProof.Rows in
set_option maxRecDepth 100000 in
set_option maxHeartbeats 0 in
theorem PySem.Challenge.cw_figurehold_k01_sums_of_polynomials_holds : PySem.Challenge.rw_figurehold_k01_sums_of_polynomials.Holds := by
  w_on; o_law; k_head; (case hw => w_witness2)
  k_fill
  refine K1P.walk (l := PySem.Challenge.rw_figurehold_k01_sums_of_polynomials) rfl rfl (fun w h Y => PySem.W.kIn_of Y) ?F
  case F =>
    intro w mg fa h XX KX G hmg
    refine' K1P.all_mk (K1P.great_of XX (by decide +kernel)) KX G hmg ?zz_a0 ?zz_x0 ?zz_s0 ?zz_g0 ?zz_h0 ?zz_n0 ?zz_c0 ?zz_i0 ?zz_t0 ?zz_l0 ?zz_d0 ?zz_k0 ?zz_kk0 ?zz_T0 ?zz_a_number ?zz_l_number ?zz_c_number ?zz_k_number ?zz_a_scaled ?zz_l_scaled ?zz_c_scaled ?zz_k_scaled ?zz_a_plus ?zz_l_plus ?zz_c_plus ?zz_k_plus ?zz_a_minus ?zz_l_minus ?zz_c_minus ?zz_k_minus ?zz_a_constant ?zz_l_constant ?zz_c_constant ?zz_k_constant ?zz_a_added ?zz_l_added ?zz_c_added ?zz_k_added ?zz_a_less ?zz_l_less ?zz_c_less ?zz_k_less ?zz_a_chk ?zz_l_chk ?zz_c_chk ?zz_k_chk ?zz_a_by ?zz_l_by ?zz_c_by ?zz_k_by ?zz_a_of ?zz_l_of ?zz_c_of ?zz_k_of ?zz_a_flow ?zz_l_flow ?zz_c_flow ?zz_k_flow ?zz_a_load ?zz_l_load ?zz_c_load ?zz_k_load ?zz_a_draw ?zz_l_draw ?zz_c_draw ?zz_k_draw ?zz_a_same ?zz_l_same ?zz_c_same ?zz_k_same ?zz_a_names ?zz_l_names ?zz_c_names ?zz_k_names ?zz_a_rising ?zz_l_rising ?zz_c_rising ?zz_k_rising ?zz_a_mono ?zz_l_mono ?zz_c_mono ?zz_k_mono ?zz_a_poly ?zz_l_poly ?zz_c_poly ?zz_k_poly ?zz_a_num ?zz_l_num ?zz_c_num ?zz_k_num ?zz_a_table ?zz_l_table ?zz_c_table ?zz_k_table ?zz_a_sum ?zz_l_sum ?zz_c_sum ?zz_k_sum ?zz_a_two ?zz_l_two ?zz_c_two ?zz_k_two ?zz_a_raised ?zz_l_raised ?zz_c_raised ?zz_k_raised ?zz_a_bound ?zz_l_bound ?zz_c_bound ?zz_k_bound ?zz_a_wide ?zz_l_wide ?zz_c_wide ?zz_k_wide ?zz_a_terms ?zz_l_terms ?zz_c_terms ?zz_k_terms ?zz_a_consts ?zz_l_consts ?zz_c_consts ?zz_k_consts ?zz_a_law ?zz_l_law ?zz_c_law ?zz_k_law ?zz_aB ?zz_xB ?zz_gB ?zz_rB ?zz_iB ?zz_tB ?zz_oG ?zz_oT ?zz_aMost ?zz_z_len ?zz_z_int ?zz_z_abs ?zz_z_max ?zz_z_list ?zz_z_isinstance ?zz_z_range ?zz_z_tuple ?zz_z_str ?zz_z_bool ?zz_z_all ?zz_z_any ?zz_z_sorted
    (case zz_a0 => k_is)
    (case zz_x0 => k_is)
    (case zz_s0 => k_is)
    (case zz_g0 => k_is)
    (case zz_h0 => k_is)
    (case zz_n0 => k_is)
    (case zz_c0 => k_is)
    (case zz_i0 => k_is)
    (case zz_t0 => k_is)
    (case zz_l0 => k_is)
    (case zz_d0 => k_is)
    (case zz_k0 => k_is)
    (case zz_kk0 => k_is)
    (case zz_T0 => k_is)
    (case zz_a_number => k_is)
    (case zz_l_number => k_is)
    (case zz_c_number => k_is)
    (case zz_k_number => k_is)
    (case zz_a_scaled => k_is)
    (case zz_l_scaled => k_is)
    (case zz_c_scaled => k_is)
    (case zz_k_scaled => k_is)
    (case zz_a_plus => k_is)
    (case zz_l_plus => k_is)
    (case zz_c_plus => k_is)
    (case zz_k_plus => k_is)
    (case zz_a_minus => k_is)
    (case zz_l_minus => k_is)
    (case zz_c_minus => k_is)
    (case zz_k_minus => k_is)
    (case zz_a_constant => k_is)
    (case zz_l_constant => k_is)
    (case zz_c_constant => k_is)
    (case zz_k_constant => k_is)
    (case zz_a_added => k_is)
    (case zz_l_added => k_is)
    (case zz_c_added => k_is)
    (case zz_k_added => k_is)
    (case zz_a_less => k_is)
    (case zz_l_less => k_is)
    (case zz_c_less => k_is)
    (case zz_k_less => k_is)
    (case zz_a_chk => k_is)
    (case zz_l_chk => k_is)
    (case zz_c_chk => k_is)
    (case zz_k_chk => k_is)
    (case zz_a_by => k_is)
    (case zz_l_by => k_is)
    (case zz_c_by => k_is)
    (case zz_k_by => k_is)
    (case zz_a_of => k_is)
    (case zz_l_of => k_is)
    (case zz_c_of => k_is)
    (case zz_k_of => k_is)
    (case zz_a_flow => k_is)
    (case zz_l_flow => k_is)
    (case zz_c_flow => k_is)
    (case zz_k_flow => k_is)
    (case zz_a_load => k_is)
    (case zz_l_load => k_is)
    (case zz_c_load => k_is)
    (case zz_k_load => k_is)
    (case zz_a_draw => k_is)
    (case zz_l_draw => k_is)
    (case zz_c_draw => k_is)
    (case zz_k_draw => k_is)
    (case zz_a_same => k_is)
    (case zz_l_same => k_is)
    (case zz_c_same => k_is)
    (case zz_k_same => k_is)
    (case zz_a_names => k_is)
    (case zz_l_names => k_is)
    (case zz_c_names => k_is)
    (case zz_k_names => k_is)
    (case zz_a_rising => k_is)
    (case zz_l_rising => k_is)
    (case zz_c_rising => k_is)
    (case zz_k_rising => k_is)
    (case zz_a_mono => k_is)
    (case zz_l_mono => k_is)
    (case zz_c_mono => k_is)
    (case zz_k_mono => k_is)
    (case zz_a_poly => k_is)
    (case zz_l_poly => k_is)
    (case zz_c_poly => k_is)
    (case zz_k_poly => k_is)
    (case zz_a_num => k_is)
    (case zz_l_num => k_is)
    (case zz_c_num => k_is)
    (case zz_k_num => k_is)
    (case zz_a_table => k_is)
    (case zz_l_table => k_is)
    (case zz_c_table => k_is)
    (case zz_k_table => k_is)
    (case zz_a_sum => k_is)
    (case zz_l_sum => k_is)
    (case zz_c_sum => k_is)
    (case zz_k_sum => k_is)
    (case zz_a_two => k_is)
    (case zz_l_two => k_is)
    (case zz_c_two => k_is)
    (case zz_k_two => k_is)
    (case zz_a_raised => k_is)
    (case zz_l_raised => k_is)
    (case zz_c_raised => k_is)
    (case zz_k_raised => k_is)
    (case zz_a_bound => k_is)
    (case zz_l_bound => k_is)
    (case zz_c_bound => k_is)
    (case zz_k_bound => k_is)
    (case zz_a_wide => k_is)
    (case zz_l_wide => k_is)
    (case zz_c_wide => k_is)
    (case zz_k_wide => k_is)
    (case zz_a_terms => k_is)
    (case zz_l_terms => k_is)
    (case zz_c_terms => k_is)
    (case zz_k_terms => k_is)
    (case zz_a_consts => k_is)
    (case zz_l_consts => k_is)
    (case zz_c_consts => k_is)
    (case zz_k_consts => k_is)
    (case zz_a_law => k_is)
    (case zz_l_law => k_is)
    (case zz_c_law => k_is)
    (case zz_k_law => k_is)
    (case zz_aB => k_is)
    (case zz_xB => k_is)
    (case zz_gB => k_is)
    (case zz_rB => k_is)
    (case zz_iB => k_is)
    (case zz_tB => k_is)
    (case zz_oG => k_is)
    (case zz_oT => k_is)
    (case zz_aMost => k_is)
    (case zz_z_len => k_is)
    (case zz_z_int => k_is)
    (case zz_z_abs => k_is)
    (case zz_z_max => k_is)
    (case zz_z_list => k_is)
    (case zz_z_isinstance => k_is)
    (case zz_z_range => k_is)
    (case zz_z_tuple => k_is)
    (case zz_z_str => k_is)
    (case zz_z_bool => k_is)
    (case zz_z_all => k_is)
    (case zz_z_any => k_is)
    (case zz_z_sorted => k_is)
#print axioms PySem.Challenge.cw_figurehold_k01_sums_of_polynomials_holds

