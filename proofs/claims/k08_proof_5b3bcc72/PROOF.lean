import PyProof.Rows.All
import Wide.All
import OpenK.AllK
import Wide.FinOn
import HandS.ForMost
import HandS.Exc
import HandS.WordsExc
import HandS.ExcInit
import HandS.FStr
import HandS.ClsMeth
import HandS.ExcCtx
import KE.KExcIs
import HandS.ExcField
import HandS.IsInst
import KE.KeyNested
import PyProof.DictRoadsH
import PyProof.DictMoreH
import HandS.Base
import HandS.Call
import HandS.List
import HandS.Dict
import HandS.Iter
import HandS.DictTup
import HandS.TupLen
import HandS.OwnEq
import KE.KDictWalk
import HandS.DictComp
import HandS.Comp
import KE.SortData
import HandS.Conv
import HandS.WordsDict
import HandS.Wide
import HandS.Words
import HandS.More
import HandS.Walk
import HandS.Codes
import HandS.ListItems
import KE.GoesNew
import KE.GoesMore
import PyProof.EnumMake
import HandS.Star
import HandS.CallLocal
import HandS.WrittenGet
import HandS.SortKw
import KE.KDictList
import HandS.TupAny
import HandS.ExcOwn
import HandS.Defaults
import HandS.HotCalls
import HandS.RaiseMore
import HandS.Replace
import HandS.TryOnly
import HandS.Ends
import PySem.Challenge.RW_figurehold_k08_steps_told
set_option Elab.async false
set_option linter.all false
set_option maxRecDepth 100000
set_option maxHeartbeats 4000000
/-! Errors of own classes under an own base under Exception; each __init__ calls the base's, then keeps one field. -/
namespace PySem
namespace OwnErr
open PySem.W PySem.Calls PyProof.Rows PySem.HandSPX Builtin Builtin.ObjectAttr
def endE : List Value := [.type "Exception", .type "BaseException", .type "object"]
/-- a class's ancestors: own classes, then Exception's -/
def Line (l : List Value) : Prop := ∃ own : List Addr, l = own.map Value.ref ++ endE
theorem Line.cons {l : List Value} {C : Addr} (h : Line l) : Line (.ref C :: l) := by
  obtain ⟨own, e⟩ := h
  exact ⟨C :: own, by rw [e]; rfl⟩
theorem Line.has {l : List Value} (h : Line l) (T : String) : l.contains (.type T) = endE.contains (.type T) := by
  obtain ⟨own, rfl⟩ := h
  induction own with
  | nil => rfl
  | cons c r ih =>
    show List.contains (Value.ref c :: (r.map Value.ref ++ endE)) (Value.type T) = _
    rw [List.contains_cons, ih]
    exact Bool.false_or _
theorem Line.pass {l : List Value} (h : Line l) (me : Value) : refuseLoop me "__setattr__" l = pure () := by
  obtain ⟨own, rfl⟩ := h
  induction own with
  | nil => exact F.store_Exception.passes me
  | cons c r ih =>
    show refuseLoop me "__setattr__" (Value.ref c :: (r.map Value.ref ++ endE)) = _
    rw [refuseLoop_ref, ih]
theorem Line.some {l : List Value} (h : Line l) : l.isEmpty = false := by
  obtain ⟨own, rfl⟩ := h
  cases own <;> rfl
section
variable {prog : Program} {w : World} {A : Around} {E : Value → Shared → Prop} {R : Result → Shared → Prop} {hp : Heap} {g : Array GenState} {d : Drawn} {t : Nat} {os : OsState}
/-- the first field of an error at e that has no dict as yet: the dict at dx is laid -/
theorem first_field {K : W.Frag} {name : Str} {tk : Tok} {v : Value} {e C : Addr} {vs : Array Value} {cd : ClassData} (kin : K.In hp) (he : hp.get? e = some { cls := .ref C, data := .fields vs })
    (hcd : W.clsIn K C = some cd) (hl : Line cd.mro) (hh : cd.hasDict = true) (no : W.findIn K (.ref C) name = some none)
    (go : ∀ h2 tk2 dx, (∀ b o, b ≠ e → hp.get? b = some o → h2.get? b = some o) → hp.objs.size ≤ dx → dx ≠ e → h2.get? e = some { cls := .ref C, dict := some dx, data := .fields vs } →
      h2.Ns1 dx (fun y => if y = name then some v else none) → R (.ok (.ret .none)) ⟨h2, g, d, tk2, os⟩) :
    codeAny (model prog w) A (.call (.builtin "object.__setattr__") ⟨[.ref e, .str name tk, v], []⟩) R ⟨hp, g, d, t, os⟩ := by
  have at_ : W.InstAt hp e { cls := .ref C, data := .fields vs } C none := ⟨he, rfl, rfl, trivial⟩
  have so := F.store_object
  have mro : W.Looks (model prog w) hp (mroOf (.ref C)) cd.mro := (W.looks_clsIn kin hcd).andThen .now
  have old : e ≠ hp.objs.size := Nat.ne_of_lt (Heap.lt_size he)
  have isObj : W.Looks (model prog w) hp (isInstance (.ref e) (.type "object")) true :=
    at_.type.andThen (W.looks_mroIn kin (by unfold W.mroIn; rw [hcd, Option.bind_some, hl.some, hl.has]; decide +kernel))
  have cls : W.Looks (model prog w) hp (classData C) cd := W.looks_clsIn kin hcd
  have taker : W.Looks (model prog w) hp (storeTaker? none) none := .now
  refine codeAny_call_builtin so.slot.plain so.entry (@W.check_slot (model prog w) _ _ ⟨hp, g, d, t, os⟩ "object.__setattr__" "object" "__setattr__" (.ref e) [.str name tk, v] [] _ so.kind so.split isObj (so.args (.ref e) (.str name tk) v) ?_)
  rw [W.osa_eq, refuse_eq]
  refine wpAny_bind (wpAny_bind (at_.type.at (wpAny_bind (mro.at ?_))))
  rw [hl.pass]
  refine wpAny_pure (wpAny_bind (at_.type.at (wpAny_bind ((W.looks_findIn kin no).at (wpAny_bind (taker.at ?_))))))
  obtain ⟨_, _, _, _, _, hd, _, _, _, _, _⟩ := cd
  obtain rfl : hd = true := hh
  show wpAny _ _ (storeInOwnDict (.ref e) (.ref C) (.str name tk) name v false) _ _ _
  unfold storeInOwnDict ownDictForStores
  repeat (first | with_reducible refine HandSPX.store_in_new ?_ ?_ | with_reducible refine wpAny_loadPart_at he ?_ | with_reducible refine cls.at ?_ | wp_step)
  · exact ⟨_, #[], _, (Heap.get?_update_ne _ _ _ _ old.symm).trans (Heap.get?_push_at rfl rfl), rfl, fun z hz => absurd hz (by simp), fun _ => rfl⟩
  · intro h2 tk2 hn hs
    have there : (hp.push { cls := .type "dict", data := .dict #[] }).get? e = some { cls := .ref C, data := .fields vs } := Heap.get?_push_of_some _ he
    exact go h2 tk2 hp.objs.size (fun b o hb ho => (hs.2 b (Nat.ne_of_lt (Heap.lt_size ho))).trans ((Heap.get?_update_ne _ _ _ _ hb).trans (Heap.get?_push_of_some _ ho))) (Nat.le_refl _) old.symm
      ((hs.2 e old).trans (Heap.get?_update_self _ there rfl)) hn
end
end OwnErr
end PySem

namespace L2
open PySem PySem.Spec PyProof.Rows
/-- what the written part says of such a class -/
structure ErrC (K : PySem.W.Frag) (C : Addr) : Prop where
  cls : ∃ nm q N bs bm sn sub ab col dd k0 k1 k2 k3 k5, K.lookup C = some (excClassObj nm q C N bs bm true sn sub ab col dd k0 k1 k2 k3 k5 "Exception.__new__") ∧ PySem.OwnErr.Line bm
  sa : PySem.W.findIn K (.ref C) "__setattr__" = some (some (.builtin "object.__setattr__"))
  exC : PySem.W.subIn K (.ref C) (.type "BaseException") = some true
  tyC : PySem.W.typeIn K (.ref C) = some (.type "type")
  kC : PySem.W.keepIn K (.ref C) = true
/-- .. and of the base whose __init__ is called by name -/
structure BaseC (K : PySem.W.Frag) (B : Addr) : Prop where
  ga : PySem.W.specialIn K (.ref B) "__getattribute__" = some (some (.builtin "type.__getattribute__"))
  rd : PySem.W.readsIn (mc := .type "type") K B = true
  ini : PySem.W.findCls K (.ref B) (.type "type") "__init__" = some (.val (.builtin "Exception.__init__"))
/-- self.f = e, the error's first field -/
def tField (K : PySem.W.Frag) (f : Str) (to te : TE) : TS := fun D σ H => te σ H fun y H1 => to σ H1 fun x H2 => ∃ a C : Addr, x = .ref a ∧ ErrC K C ∧ PySem.W.findIn K (.ref C) f = some none ∧ H2 a = some (exo a C none) ∧
  ∀ dx, H2 dx = none → dx ≠ a → D.nx σ (upd (upd H2 dx (exd dx [(f, y)])) a (exo a C (some dx)))
/-- Base.__init__(self, ..) -/
def tBaseInit (K : PySem.W.Frag) (ta : TA) : TE := fun σ H Q => ta σ H fun vs H1 => ∃ (a C : Addr) (ws : List V), vs = .ref a :: ws ∧ ws.length ≤ 1000 ∧ ErrC K C ∧ H1 a = some (exo a C none) ∧ Q .non H1
/-- C(e, ..), C's own __init__ keeping sp -/
def tErr (C : Addr) (sp : Sp) (ta : TA) : St → Hp → XK → Prop := fun σ H Q => ta σ H fun vs H1 => vs.length ≤ 1000 ∧ ∀ a, H1 a = none → sp (.ref a :: vs) (upd H1 a (exo a C none))
  (fun v H2 => v = .non ∧ ∃ (d : Addr) (fs : List (Str × V)), H2 a = some (exo a C (some d)) ∧ H2 d = some (exd d fs) ∧ H1 d = none ∧ Q (.ref C) (some d) (upd (del H2 a) d (.xd fs))) (fun _ _ _ => False)
section
variable {X : Cx} {pins : List (Addr × Obj)} {σ : St} {H : Hp} {s : Shared} {a C : Addr}
theorem ErrC.data (T : ErrC X.K C) : ∃ cd, PySem.W.clsIn X.K C = some cd ∧ PySem.OwnErr.Line cd.mro ∧ cd.hasDict = true := by
  obtain ⟨nm, q, N, bs, bm, sn, sub, ab, col, dd, k0, k1, k2, k3, k5, hC, hl⟩ := T.cls
  refine ⟨{ name := nm, bases := bs, mro := .ref C :: bm, ns := N, qualname := q, hasDict := true, slotNames := sn, subclasses := sub, abstract := ab, collection := col, hasDel := false }, ?_, hl.cons, rfl⟩
  unfold PySem.W.clsIn
  rw [hC] <;> rfl
theorem field_first {f : Str} {y : V} {u : Value} {Q : Unit → Shared → Prop} {E : Value → Shared → Prop} {A : Around} (T : ErrC X.K C) (I : Inv X pins σ H s) (ea : H a = some (exo a C none)) (no : PySem.W.findIn X.K (.ref C) f = some none) (ry : RelV y u)
    (go : ∀ dx s2, H dx = none → dx ≠ a → Inv X pins σ (upd (upd H dx (exd dx [(f, y)])) a (exo a C (some dx))) s2 → Q () s2) : wpAny (model X.prog X.w) A (setAttr (.ref a) f u) Q E s := by
  obtain ⟨cd, hcd, hl, hd⟩ := T.data
  obtain ⟨t1, ho⟩ := exo_at I.hok ea
  obtain ⟨hp, g, dr, t, os⟩ := s
  refine PySem.W.set_plain I.kIn (ox := { cls := .ref C, dict := none, data := .fields #[.ref t1, .none, .none, .none, .bool false, .none] }) (od := none) ⟨ho, rfl, rfl, trivial⟩ T.sa ?_
  refine PySem.OwnErr.first_field I.kIn ho hcd hl hd no (fun h2 t2 dx keep new ne hx hn => ?_)
  have fresh : H dx = none := I.hok.fresh new
  have neD : ∀ {b : Addr} {o : Obj}, hp.get? b = some o → b ≠ dx := fun q => Nat.ne_of_lt (Nat.lt_of_lt_of_le (Heap.lt_size q) new)
  have neA : ∀ {b : Addr}, H b = none → b ≠ a := fun n z => by
    rw [z, ea] at n
    cases n
  have un : Un X.fs [] H (upd (upd H dx (exd dx [(f, y)])) a (exo a C (some dx))) hp h2 :=
    { keep := fun b o q n _ _ => keep b o (neA n) q
      slot := fun b o q n _ _ => ⟨o.slots, keep b o (neA n) q⟩
      free := fun b o q n _ => (upd_ne (neA n)).trans ((upd_ne (neD q)).trans n)
      there := fun b o q _ => by
        by_cases hb : b = a
        · exact ⟨_, hb.symm ▸ hx⟩
        · exact ⟨o, keep b o hb q⟩
      tups := fun b xs q => (upd_ne (at_ne ea q exo_tup)).trans ((upd_ne (ne_of_none q fresh)).trans q)
      frzs := fun b o v q => (upd_ne (at_ne ea q exo_frz)).trans ((upd_ne (ne_of_none q fresh)).trans q)
      tbls := fun b ps q => ⟨#[], ((upd_ne (at_ne ea q exo_tbl)).trans ((upd_ne (ne_of_none q fresh)).trans q)).trans (by simp)⟩ }
  refine go dx _ fresh ne (I.un (t' := t2) un fun b o q => ?_)
  by_cases hb : b = a
  · subst hb
    rw [upd_same] at q
    cases q
    exact exo_ok hx
  · rw [upd_ne hb] at q
    by_cases hd : b = dx
    · subst hd
      rw [upd_same] at q
      cases q
      exact exd_ok hn (relO_put (fs := []) ry fun _ => True.intro)
    · rw [upd_ne hd] at q
      refine (I.hok b o q).stay (fun c v hc z => keep c v ?_ z) (fun c hc => ?_) (fun c xs hc => ?_)
      · exact hc.elim (fun e => by rw [e]; exact hb) fun e => at_ne ea e exo_own
      · exact (upd_ne (at_ne ea hc exo_own)).trans ((upd_ne (ne_of_none hc fresh)).trans hc)
      · exact (upd_ne (at_ne ea hc exo_tup)).trans ((upd_ne (ne_of_none hc fresh)).trans hc)
theorem base_init {us : List Value} {Q : Value → Shared → Prop} {E : Value → Shared → Prop} {A : Around} (T : ErrC X.K C) (I : Inv X pins σ H s) (ea : H a = some (exo a C none)) (hl : us.length ≤ sizeLine) (go : ∀ s2, Inv X pins σ H s2 → Q .none s2) :
    wpAny (model X.prog X.w) A (call (.builtin "Exception.__init__") (.ref a :: us)) Q E s := by
  obtain ⟨nm, q, N, bs, bm, sn, sub, ab, col, dd, k0, k1, k2, k3, k5, hC, hline⟩ := T.cls
  obtain ⟨t1, ho⟩ := exo_at I.hok ea
  obtain ⟨hp, g, dr, t, os⟩ := s
  refine wpAny_call (PySem.HandSPX.init_base F.excBase_Exception (fun T => hline.has T) (I.kIn _ _ hC) ho hl fun h2 t2 keep hx => ?_)
  have eq : upd H a (exo a C none) = H := funext fun b => by
    by_cases hb : b = a
    · rw [hb, upd_same, ea]
    · rw [upd_ne hb]
  have J := I.write (t' := t) (x := a) (e := a) (o := exo a C none) (by rw [ea]; exact True.intro) (.inl rfl) keep ⟨_, hx⟩ (exo_ok hx)
  exact go _ (eq ▸ J)
end
section
variable {X : Cx} {o e : Expr} {es : List Expr} {to te : TE} {ta : TA} {f : Str} {p p' p1 p2 pos : Pos}
theorem ps_field (ho : PE X o to) (he : PE X e te) (hs : swapsWith e (some (.Attribute o f p')) pos.line X.env = pure false := by rfl) : PS X (.Assign [.Attribute o f p'] e pos) (tField X.K f to te) :=
  ⟨fun pins s σ H D I h => plainObj_wpAny_Assign_Attribute (thn (he.run pins s σ H _ I h) fun _ s1 ⟨y, H1, I1, r1, q1⟩ => thn (ho.run pins s1 σ H1 _ I1 q1) fun u s2 ⟨x, H2, I2, r2, a, C, ex, T, no, ea, q⟩ => by
    subst ex
    obtain rfl : u = Value.ref a := r2
    exact field_first T I2 ea no r1 fun dx s3 n ne J => ⟨σ, _, J, q dx n ne⟩) hs⟩
theorem pe_base {x : Str} {B : Addr} {pl : Sem Bool} (T : BaseC X.K B) (hg : Gl X x) (hm : X.mg x = some (.ref B)) (ha : PA X (e :: es) ta)
    (hc : eval (.Call (.Attribute (.Name x p1) "__init__" p2) (e :: es) [] pos) X.env = (do
      let ov ← eval (.Name x p1) X.env
      standAt p2.atName
      let (f, first) ← holding [ov] (getMethod ov "__init__" pl)
      callWith pos f first (backTo pos (starEach (e :: es) X.env)) (backToKw pos (keywordEach [] X.env))) := by rfl)
    (hdb : (x == ("__debug__" : Str)) = false := by decide) (he : starEach (e :: es) X.env = (false, eval e X.env) :: starEach es X.env := by rfl) (hpl : (backTo pos (starEach es X.env)).any (·.1) = false := by rfl) :
    PE X (.Call (.Attribute (.Name x p1) "__init__" p2) (e :: es) [] pos) (tBaseInit X.K ta) := by
  refine ⟨fun pins s σ H Q I h => ?_⟩
  refine PySem.W.methodCall_KW (ld_glob I hg hm ?_ hdb) hc
  refine PySem.W.method_cls I.kIn T.ga (PySem.W.cls_value I.kIn T.rd T.ini (by decide +kernel) ?_)
  show wpAny _ _ (callWith pos (Value.builtin "Exception.__init__") [] (backTo pos (starEach (e :: es) X.env)) []) _ _ _
  refine PyProof.Rows.callWith_method1 (thn (ha.run pos pins _ σ H _ (I.tok _) h) fun us s1 ⟨vs, H1, I1, r1, a, C, ws, ev, hl, TC, ea, q⟩ => ?_) he hpl
  subst ev
  cases r1 with
  | @cons _ u0 _ ur ra rr =>
    obtain rfl : u0 = Value.ref a := ra
    exact base_init TC I1 ea (by rw [← Paired.length rr, sizeLine_eq]; omega) fun s2 J => ⟨.non, H1, J, rfl, q⟩
theorem pmk_err {CX : CXT} {x : Str} {C fI : Addr} {k : Nat} {fd : FuncData} {ps : List Str} {sp : Sp} (T : ErrC X.K C) (iC : PySem.W.findIn X.K (.ref C) "__init__" = some (some (.ref fI))) (tI : PySem.W.typeIn X.K (.ref fI) = some (.type "function"))
    (G : FnOk X.prog X.w X.K X.mg X.base CX k fI fd ps sp) (hr : Room (k + 1) X.A) (hb : Binds X.K fd ps []) (hx : Passes CX X (fun _ _ _ => False)) (hg : Gl X x) (hm : X.mg x = some (.ref C)) (ha : PA X (e :: es) ta)
    (hdb : (x == ("__debug__" : Str)) = false := by decide) (he : starEach (e :: es) X.env = (false, eval e X.env) :: starEach es X.env := by rfl) (hpl : (backTo pos (starEach es X.env)).any (·.1) = false := by rfl) :
    L2N.PMk X (.Call (.Name x p) (e :: es) [] pos) (tErr C sp ta) := by
  intro pins s σ H Q I h
  obtain ⟨nm, q, N, bs, bm, sn, sub, ab, col, dd, k0, k1, k2, k3, k5, hC, hline⟩ := T.cls
  refine wpAny_Call_Name_kw (ld_glob I hg hm ?_ hdb)
  refine PySem.W.callWith_K (h₀ := X.base) I.ok.mod.kin T.kC (thn (ha.run pos pins s σ H _ I h) fun us s1 ⟨vs, H1, I1, r1, hz, q1⟩ => ⟨I1.kIn, ?_⟩) he hpl
  show wpAny _ _ (call (.ref C) us) _ _ _
  obtain ⟨hp, g, dr, tk, os⟩ := s1
  have big : hp.objs.size ≤ hp.objs.size + 1 := Nat.le_succ _
  have keep : ∀ b o, hp.get? b = some o → ((hp.push (PySem.W.kdv_tup us)).push (PySem.HandSPX.excO C hp.objs.size)).get? b = some o := fun _ _ z => Heap.get?_push_of_some _ (Heap.get?_push_of_some _ z)
  have made : ((hp.push (PySem.W.kdv_tup us)).push (PySem.HandSPX.excO C hp.objs.size)).get? (hp.objs.size + 1) = some (PySem.HandSPX.excO C hp.objs.size) := by heap_get
  have hq := q1 (hp.objs.size + 1) (I1.hok.fresh big)
  have I2 := I1.laid (t' := tk) (a := hp.objs.size + 1) (o := exo (hp.objs.size + 1) C none) (h' := (hp.push (PySem.W.kdv_tup us)).push (PySem.HandSPX.excO C hp.objs.size)) keep big (exo_ok made)
  have r2 : Vals (V.ref (hp.objs.size + 1) :: vs) (Value.ref (hp.objs.size + 1) :: us) := .cons rfl r1
  have len : (Value.ref (hp.objs.size + 1) :: us).length = ps.length := r2.length.symm.trans (G.len _ _ _ _ hq)
  have few : us.length ≤ sizeLine := by
    rw [← Paired.length r1, sizeLine_eq]
    omega
  have bind := hb _ (Value.ref (hp.objs.size + 1) :: us) I2.kIn (by simpa using len)
  refine wpAny_call (PySem.HandSPX.call_own F.excBase_Exception (fun T => hline.has T) (I1.kIn _ _ hC) (PySem.W.looks_findIn I1.kIn iC) (fun me => PySem.W.bind_fn I1.kIn me tI) few
    (codeAny_mono (G.run _ X.stack _ _ ⟨Value.ref (hp.objs.size + 1) :: us, []⟩ (Value.ref (hp.objs.size + 1) :: us) _ _ (fun _ _ _ => False) (hr.make C us []) (I2.env0.make C us []) (by simpa using bind) r2 hq) fun r s2 hs2 => ?_))
  match r, hs2 with
  | .error er, z => exact hx pins σ _ _ er s2 I2 z
  | .ok (.ret u), ⟨v, H2, os2, bare2, un2, hok2, rv, ev, d, fs, ea, ed, hd1, q2⟩ =>
    subst ev
    obtain ⟨h2, g2, d2, t2, os'⟩ := s2
    obtain ⟨t0, G2, J, keepG, gone, there, na⟩ := mk_end0 (d2 := d2) (t2 := t2) I1 big keep un2 hok2 os2 bare2 ea ed hd1
    exact ⟨rv, _, _, _, ⟨G2, g2, d2, t2, os'⟩, _, .ref C, some d, rfl, J, keepG, gone, there, ⟨rfl, rfl, fun vs e => by cases e; rfl⟩, rfl, rfl, na, rfl, bare2, raises_own T.exC T.tyC, q2⟩
  | .ok .next, z => exact z.elim
  | .ok .brk, z => exact z.elim
  | .ok .cont, z => exact z.elim
end
end L2

set_option Elab.async false
set_option linter.all false
set_option maxRecDepth 100000
set_option maxHeartbeats 4000000
/-! try: .. except A as e: .. except B as e: ..: several clauses, one name. -/
namespace L2
open PySem PySem.Spec PyProof.Rows
/-- behind a suite the name's slot is empty -/
def Ends.gone (D : Ends) (i : Nat) : Ends := { nx := fun σ H => D.nx (σ.set i none) H, rt := D.rt, bk := fun σ H => D.bk (σ.set i none) H, ct := fun σ H => D.ct (σ.set i none) H }
/-- what the clauses wish, one behind the other -/
def wEach (K : PySem.W.Frag) (i : Nat) (Wout : WX) (D : Ends) : List (Value × (Addr → Value → Option Addr → TS)) → WX
  | [] => Wout
  | (c, ts) :: more => fun cls d σ H => ∃ b, PySem.W.exmOne K cls c = some b ∧ (b = true → ∀ a, H a = none → ts a cls d (D.gone i) (σ.set i (some (.ref a))) H) ∧ (b = false → wEach K i Wout D more cls d σ H)
inductive Clauses (X : Cx) (n : Str) : List ExceptHandler → List (Value × (Addr → Value → Option Addr → TS)) → Prop
  | nil : Clauses X n [] []
  | cons {x : Str} {c : Value} {ts : Addr → Value → Option Addr → TS} {first : Stmt} {suite : List Stmt} {np hp : Pos} {more : List ExceptHandler} {l : List (Value × (Addr → Value → Option Addr → TS))} (hc : Names X x c)
      (hs : ∀ (a : Addr) (oe : Obj) (cls : Value) (d : Option Addr) (pn : List (Addr × Obj)), L2N.Zn cls d oe → (∃ vs, oe.data = .fields vs) → PSs (X.suite a ((a, oe) :: pn)) (first :: suite) (ts a cls d)) (r : Clauses X n more l) :
      Clauses X n (.ExceptHandler (some (.Name x np)) (some n) (first :: suite) hp :: more) ((c, ts) :: l)
section
variable {X : Cx} {n : Str} {i : Nat} {body : List Stmt} {h₁ : ExceptHandler} {hs₁ : List ExceptHandler} {l : List (Value × (Addr → Value → Option Addr → TS))} {pos : Pos} {tb : WX → TS} {Wout : WX}
theorem SP.untry {pins : List (Addr × Obj)} {xe : Value → Shared → Prop} {D : Ends} {f : Flow} {s : Shared} (ok : X.Ok) (h : SP (X.tr (X.pn ++ pins) xe) [] D f s) : SP X pins D f s :=
  match f, h with
  | .next, ⟨σ, H, J, q⟩ => ⟨σ, H, J.ofTry ok, q⟩
  | .brk, ⟨σ, H, J, q⟩ => ⟨σ, H, J.ofTry ok, q⟩
  | .cont, ⟨σ, H, J, q⟩ => ⟨σ, H, J.ofTry ok, q⟩
  | .ret _, ⟨v, σ, H, J, r, q⟩ => ⟨v, σ, H, J.ofTry ok, r, q⟩
theorem ps_try_each (st : X.stack = X.env :: X.outer) (fr : X.env.frame = some X.env.locals) (nd : X.N.Nodup) (hi : X.N[i]? = some n) (lo : X.env.kindOf n = some .local) (tk : L2N.Takes X Wout)
    (hb : ∀ (W : WX) (pn : List (Addr × Obj)) (xe : Value → Shared → Prop), L2N.Takes (X.tr pn xe) W → PassesOwn (model X.prog X.w) X.A X.env xe → PSs (X.tr pn xe) body (tb W))
    (hh : Clauses X n (h₁ :: hs₁) l) : PS X (.Try body (h₁ :: hs₁) [] [] pos) (fun D σ H => tb (wEach X.K i Wout D l) D σ H) := by
  refine ⟨fun pins s σ H D I h => ?_⟩
  have ok := I.ok
  have frs_ : X.A.frames = some (X.env :: X.outer) := by rw [ok.frames, st]
  refine wpAny_Try_except ?_
  refine wpAny_mono ((hb (wEach X.K i Wout D l) (X.pn ++ pins) (fun e sa => wpAny (model X.prog X.w) X.A (noteFrame e X.env) (fun _ sb => wpAny (model X.prog X.w) X.A (setFlight e none) (fun _ sc =>
    wpAny (model X.prog X.w) X.A (handleBy e X.env (h₁ :: hs₁)) (SP X pins D) X.xe sc) X.xe sb) X.xe sa) (fun u s2 hu => ?_) PassesOwn.looking).run [] s σ H D (I.toTry _) h) (fun f s2 hf => ?_) (fun _ _ z => z)
  · obtain ⟨a, B, sI, pins2, σ2, H2, cls, d, rfl, J0, nb, up, sky, na, os, ag, wish⟩ := hu
    have J : Inv X pins σ2 H2 sI := J0.ofTry ok
    show wpAny (model X.prog X.w) X.A (noteFrame (.ref a) X.env) _ _ _
    refine L2N.Sky.land L2N.Zn.steady frs_ fr (by rw [← st]; exact sky) fun h3 fl3 up3 => ?_
    have J3 : Inv X pins σ2 H2 { s2 with heap := h3 } := J.landed nb fl3.1 (up.trans up3) os ag
    obtain ⟨oe3, vs3, he3, hz3, hd3⟩ := fl3.there
    -- the error is no frame
    have out : a ∉ frs (X.env :: X.outer) := fun hm => by
      obtain ⟨_, o, ho, hnf⟩ := fl3.2.2.1.mem hm
      rw [he3] at ho
      cases ho
      exact hnf _ hd3
    have nL : a ≠ X.env.locals := fun z => out (List.mem_filterMap.mpr ⟨X.env, List.mem_cons_self, by rw [fr, z]⟩)
    have nF : a ∉ X.fs := fun hm => by
      obtain ⟨ev, he, q⟩ := List.mem_filterMap.mp hm
      exact out (List.mem_filterMap.mpr ⟨ev, List.mem_cons_of_mem _ he, q⟩)
    have S3 := J3.suite he3 hd3 na nL nF
    have go : ∀ {hs2 : List ExceptHandler} {l2 : List (Value × (Addr → Value → Option Addr → TS))}, Clauses X n hs2 l2 → wEach X.K i Wout D l2 cls d σ2 H2 →
        wpAny (model X.prog X.w) X.A (handleBy (.ref a) X.env hs2) (SP X pins D) X.xe { s2 with heap := h3 } := by
      intro hs2 l2 hk
      induction hk with
      | nil =>
        intro wish2
        refine wpAny_handleBy_nil ?_
        obtain ⟨_, _, _, oe, vs, T, oT, ts2, he, hz, hd, h1, _⟩ := id fl3
        unfold PySem.passOn
        refine wpAny_bind (wpAny_field he hd h1 ?_)
        rw [if_neg (show ¬ ((Value.ref T == Value.none) = true) from by simp)]
        have last : wpAny (model X.prog X.w) X.A (setFlight (.ref a) X.env.frame) (fun _ s5 => wpAny (model X.prog X.w) X.A (throw (.ref a) : Sem Flow) (SP X pins D) X.xe s5) X.xe { s2 with heap := h3 } := by
          rw [fr]
          exact HandSPX.setFlight_upZ fl3 fun h4 hh4 up4 => wpAny_throw (tk _ _ ⟨a, B, sI, pins, σ2, H2, cls, d, rfl, J, nb, (up.trans up3).trans up4, .inr (.inr (by rw [st]; exact hh4)), na, os, ag, wish2⟩)
        first
          | exact wpAny_bind (wpAny_pure (wpAny_bind last))
          | exact wpAny_bind last
      | @cons x c ts first suite np hp more l2 hc hsu r ih =>
        intro wish2
        obtain ⟨b, hb1, yes, no⟩ := wish2
        refine wpAny_handleBy_cons (codeAny_handlers_test ?_) (by intro q; cases q)
        have ty : PySem.W.Looks (model X.prog X.w) h3 (typeOf (.ref a)) cls := fun A Q E s k q => wpAny_typeOf_ref (k _ _ he3) (by rw [hz3.1]; exact q)
        have LM := PySem.W.exm_one (M := model X.prog X.w) J3.kIn ty hb1
        have test : ∀ {Q : Value → Shared → Prop} {E : Value → Shared → Prop}, Q c { s2 with heap := h3 } → wpAny (model X.prog X.w) (X.A.mark (some (.ref a))) (eval (.Name x np) X.env) Q E { s2 with heap := h3 } := fun {Q E} q =>
          match hc with
          | ⟨hg, hdbg, .inl hm⟩ => ld_glob (X := X.suite a ((a, oe3) :: (X.pn ++ pins))) S3 hg hm q hdbg
          | ⟨hg, hdbg, .inr ⟨hm, hv, hnn⟩⟩ => ld_blt (X := X.suite a ((a, oe3) :: (X.pn ++ pins))) S3 hg hm hv q hnn hdbg
        refine test (LM.here ?_)
        cases b with
        | false =>
          show wpAny _ X.A (handleBy (.ref a) X.env more) _ _ _
          exact ih (no rfl)
        | true =>
          refine codeAny_handlers_suite_as ?_
          refine HandSPX.lands_againZ fl3 fun h4 fl4 up4 => ?_
          have J4 : Inv X pins σ2 H2 { s2 with heap := h4 } := J.landed nb fl4.1 ((up.trans up3).trans up4) os ag
          obtain ⟨oe4, vs4, he4, hz4, hd4⟩ := fl4.there
          refine store_ok (X := X.suite a ((a, oe4) :: (X.pn ++ pins))) (v := .ref a) (J4.suite he4 hd4 na nL nF) nd hi (.inl lo) rfl (fun s5 S5 => ?_) (.inr lo)
          refine wpAny_mono ((hsu a oe4 cls d (X.pn ++ pins) hz4 ⟨_, hd4⟩).run [] s5 _ H2 _ S5 (yes rfl a na)) (fun f s6 hf => ?_) (fun _ _ z => z.elim)
          have fin : ∀ {σ6 : St} {H6 : Hp} {Q : Shared → Prop}, Inv (X.suite a ((a, oe4) :: (X.pn ++ pins))) [] σ6 H6 s6 → (∀ s7, Inv X pins (σ6.set i none) H6 s7 → Q s7) →
              wpAny (model X.prog X.w) X.A (do bindName X.env n .none; unbindBehindTheSuite X.env n hp) (fun _ s7 => Q s7) X.xe s6 := fun S6 hq => gone_ok (S6.unsuite ok) nd hi lo hq
          match f, hf with
          | .next, ⟨σ6, H6, S6, q6⟩ => exact fin S6 fun s7 J7 => ⟨_, _, J7, q6⟩
          | .brk, ⟨σ6, H6, S6, q6⟩ => exact fin S6 fun s7 J7 => ⟨_, _, J7, q6⟩
          | .cont, ⟨σ6, H6, S6, q6⟩ => exact fin S6 fun s7 J7 => ⟨_, _, J7, q6⟩
          | .ret u, ⟨v6, σ6, H6, S6, r6, q6⟩ => exact fin S6 fun s7 J7 => ⟨_, _, _, J7, r6, q6⟩
    exact go hh wish
  · have z := SP.untry ok hf
    cases f with
    | next => exact wpAny_execs_nil z
    | brk => exact z
    | cont => exact z
    | ret u => exact z
end
/-- what a class says, so that isinstance asks its instances rightly -/
structure AskC (K : PySem.W.Frag) (C : Addr) : Prop where
  cl : (PySem.W.clsIn K C).isSome = true
  ga : PySem.W.findIn K (.ref C) "__getattribute__" = some (some (.builtin "BaseException.__getattribute__"))
  gg : PySem.W.findIn K (.ref C) "__getattr__" = some none
  exC : PySem.W.subIn K (.ref C) (.type "BaseException") = some true
  cls : PySem.W.findIn K (.ref C) "__class__" = some (some (.builtin "object.__class__"))
  get : PySem.W.specialIn K (.builtin "object.__class__") "__get__" = some (some (.builtin "getset_descriptor.__get__"))
  tak : PySem.W.takesIn K (.builtin "object.__class__") = some true
  obj : PySem.W.mroIn K C (.type "object") = some true
/-- isinstance(e, c), e the error at a of the class cls -/
def rErrIs (K : PySem.W.Frag) (cls : Value) (a : Addr) (d : Option Addr) : List V → Hp → VK → Prop := fun xs H Q => ∃ (C : Addr) (c : V) (cv : Value) (b : Bool), cls = .ref C ∧ AskC K C ∧ xs = [.ref a, c] ∧ ClsV c cv ∧ (∀ dd, d = some dd → ∃ fs, H dd = some (.xd fs)) ∧ PySem.W.kitOne K cls cv = some b ∧ Q (.bl b) H
/-- isinstance(e, (c, ..)) -/
def rErrIsT (K : PySem.W.Frag) (cls : Value) (a : Addr) (d : Option Addr) : List V → Hp → VK → Prop := fun xs H Q => ∃ (C tp : Addr) (cs : List V) (us : List Value) (b : Bool), cls = .ref C ∧ AskC K C ∧ xs = [.ref a, .ref tp] ∧ H tp = some (.tup cs) ∧ Paired ClsV cs us ∧ (∀ dd, d = some dd → ∃ fs, H dd = some (.xd fs)) ∧ PySem.W.kitAny K cls us = some b ∧ Q (.bl b) H
section
variable {X : Cx} {a C : Addr} {cls : Value} {oe : Obj} {d : Option Addr} {pn : List (Addr × Obj)}
theorem err_inst {pins : List (Addr × Obj)} {σ : St} {H : Hp} {s : Shared} (I : Inv (X.suite a ((a, oe) :: pn)) pins σ H s) (hz : Zc (.ref C) d oe) (hf : ∃ vs, oe.data = .fields vs) (hd : ∀ dd, d = some dd → ∃ fs, H dd = some (.xd fs)) : ∃ od, PySem.W.InstAt s.heap a oe C od := by
  obtain ⟨hget, _⟩ := I.pin (a, oe) (List.mem_append_left _ List.mem_cons_self)
  obtain ⟨vs, hv⟩ := hf
  have nc : PySem.W.notCls oe = true := by unfold PySem.W.notCls; rw [hv] <;> rfl
  cases d with
  | none => exact ⟨none, hget, hz.1, nc, by rw [hz.2]; trivial⟩
  | some dd =>
    obtain ⟨fs, e⟩ := hd dd rfl
    obtain ⟨mA, ⟨o, _, _, ho, _⟩, _⟩ := (show ObjOk X.prog X.w H s.heap dd (.xd fs) from I.hok dd _ e)
    exact ⟨some o, hget, hz.1, nc, by rw [hz.2]; exact ho⟩
theorem call_errIs (hz : Zc cls d oe) (hf : ∃ vs, oe.data = .fields vs) : CallR (X.suite a ((a, oe) :: pn)) (.builtin "isinstance") (rErrIs X.K cls a d) := by
  intro pins s σ H xs us Q I r h
  obtain ⟨C, c, cv, b, rfl, T, rfl, hc, hd, e, q⟩ := h
  obtain ⟨u1, u2, rfl, r1, r2⟩ := vals2 r
  cases (show u1 = Value.ref a from r1)
  cases hc.eq r2
  obtain ⟨od, J⟩ := err_inst I hz hf hd
  exact PySem.W.kia_one (PySem.W.kitx_exc T.cl T.ga T.gg T.exC T.cls T.get T.tak T.obj) I.kIn J e (fun z => nomatch z) fun tk => ⟨.bl b, H, I.tok tk, rfl, q⟩
theorem call_errIsT (hz : Zc cls d oe) (hf : ∃ vs, oe.data = .fields vs) : CallR (X.suite a ((a, oe) :: pn)) (.builtin "isinstance") (rErrIsT X.K cls a d) := by
  intro pins s σ H xs us Q I r h
  obtain ⟨C, tp, cs, ws, b, rfl, T, rfl, hT, k, hd, e, q⟩ := h
  obtain ⟨u1, u2, rfl, r1, r2⟩ := vals2 r
  cases (show u1 = Value.ref a from r1)
  cases (show u2 = Value.ref tp from r2)
  obtain ⟨od, J⟩ := err_inst I hz hf hd
  obtain ⟨_, its, rv, o, h1, h2, m, h3⟩ := (show ObjOk X.prog X.w H s.heap tp (.tup cs) from I.hok tp _ hT)
  cases ClsV.all k rv
  obtain ⟨oc, od2, dt, sl⟩ := o
  simp only at h2 h3
  subst h2 h3
  exact PySem.W.kia_tup (PySem.W.kitx_exc T.cl T.ga T.gg T.exC T.cls T.get T.tak T.obj) I.kIn J h1 e (fun z => nomatch z) fun tk => ⟨.bl b, H, I.tok tk, rfl, q⟩
end
end L2

set_option Elab.async false
set_option linter.all false
set_option maxRecDepth 100000
set_option maxHeartbeats 4000000
/-! Dicts whose keys are tuples of any depth (nested keys), for the hand layer. Speaks of no program. -/
namespace K1D
open PySem PySem.Spec PyProof.Rows L2

/-! ### keys that stand -/
mutual
inductive KeyV (K : PySem.W.Frag) (H : Hp) : NestedKey → V → Prop
  | non : KeyV K H .none .non
  | int (i : Int) : KeyV K H (.num i) (.int i)
  | str (x : Str) : KeyV K H (.text x) (.str x)
  | tup {a : Addr} {xs : List V} {ks : List NestedKey} : H a = some (.tup xs) → KeyVs K H ks xs → KeyV K H (.tup ks) (.ref a)
inductive KeyVs (K : PySem.W.Frag) (H : Hp) : List NestedKey → List V → Prop
  | nil : KeyVs K H [] []
  | cons {k : NestedKey} {v : V} {ks : List NestedKey} {vs : List V} : KeyV K H k v → KeyVs K H ks vs → KeyVs K H (k :: ks) (v :: vs)
end
section
variable {K : PySem.W.Frag} {H H' : Hp}
/-- what stands in both: tuples -/
def Tups (K : PySem.W.Frag) (H H' : Hp) : Prop := ∀ a xs, H a = some (.tup xs) → H' a = some (.tup xs)
mutual
theorem KeyV.up (t : Tups K H H') : ∀ (k : NestedKey) (v : V), KeyV K H k v → KeyV K H' k v
  | .none, _, h => by cases h; exact .non
  | .num i, _, h => by cases h; exact .int i
  | .text x, _, h => by cases h; exact .str x
  | .tup ks, _, h => by
    cases h with
    | tup h1 h2 => exact .tup (t _ _ h1) (KeyVs.up t ks _ h2)
theorem KeyVs.up (t : Tups K H H') : ∀ (ks : List NestedKey) (vs : List V), KeyVs K H ks vs → KeyVs K H' ks vs
  | [], _, h => by cases h; exact .nil
  | k :: ks, _, h => by
    cases h with
    | cons h1 h2 => exact .cons (KeyV.up t k _ h1) (KeyVs.up t ks _ h2)
end
mutual
/-- .. is data -/
theorem KeyV.dp : ∀ (k : NestedKey) (v : V), KeyV K H k v → Dp K H v k.data
  | .none, _, h => by cases h; exact .non
  | .num i, _, h => by cases h; exact .int i
  | .text x, _, h => by cases h; exact .str x
  | .tup ks, _, h => by
    cases h with
    | tup h1 h2 => exact .tup (SqT.of h1) (KeyVs.dp ks _ h2)
theorem KeyVs.dp : ∀ (ks : List NestedKey) (vs : List V), KeyVs K H ks vs → DpAll K H vs (NestedKey.datas ks)
  | [], _, h => by cases h; exact .nil
  | k :: ks, _, h => by
    cases h with
    | cons h1 h2 => exact .cons (KeyV.dp k _ h1) (KeyVs.dp ks _ h2)
end
end
section
variable {X : Cx} {pins : List (Addr × Obj)} {σ : L2.St} {H : Hp} {s : Shared}
mutual
theorem KeyV.is (I : Inv X pins σ H s) : ∀ (k : NestedKey) (v : V) (u : Value), KeyV X.K H k v → RelV v u → NestedIs s.heap k u
  | .none, _, _, h, r => by cases h; cases r; exact .none
  | .num i, _, _, h, r => by
    cases h
    obtain ⟨t, rfl⟩ := r
    exact .int i t
  | .text x, _, _, h, r => by
    cases h
    obtain ⟨t, rfl⟩ := r
    exact .text x t
  | .tup ks, _, _, h, r => by
    cases h with
    | tup h1 h2 =>
      cases r
      obtain ⟨its, rv, ⟨o, ho, hc, n, hd⟩, _⟩ := I.tuple (SqT.of h1)
      exact .tup ho hc hd (KeyVs.is I ks _ _ h2 rv)
theorem KeyVs.is (I : Inv X pins σ H s) : ∀ (ks : List NestedKey) (vs : List V) (us : List Value), KeyVs X.K H ks vs → Vals vs us → NestedAll s.heap ks us
  | [], _, _, h, r => by cases h; cases r; exact .nil
  | k :: ks, _, _, h, r => by
    cases h with
    | cons h1 h2 =>
      cases r with
      | cons r1 r2 => exact .cons (KeyV.is I k _ _ h1 r1) (KeyVs.is I ks _ _ h2 r2)
end
end

/-! ### the dict -/
/-- an entry: its key, where the key stands, its value -/
abbrev NE := NestedKey × Addr × V
abbrev NR : List NE → List (NestedKey × Addr × Value) → Prop := Paired fun (p : NE) q => p.1 = q.1 ∧ p.2.1 = q.2.1 ∧ RelV p.2.2 q.2.2
def entN (w : World) (x : NestedKey × Addr × Value) : DictEntry := ⟨x.1.hash w, .ref x.2.1, x.2.2⟩
def NIn (w : World) (d : Addr) (kvs : List NE) (h : Heap) : Prop :=
  kvs.length ≤ sizeLine ∧ (d == sysModules) = false ∧ ∃ xs : List (NestedKey × Addr × Value), NR kvs xs ∧ ∃ o es ep, h.get? d = some o ∧ o.ExactDict ∧ o.data = .dict es ep ∧ es.toList = xs.map (entN w) ∧ (xs.map (·.1)).Nodup
def dN (w : World) (d : Addr) (kvs : List NE) : HO := .ext (NIn w d kvs)
/-- all its keys stand -/
def KeysN (K : PySem.W.Frag) (H : Hp) (kvs : List NE) : Prop := ∀ x ∈ kvs, KeyV K H x.1 (.ref x.2.1) ∧ x.1.depth ≤ 8
theorem KeysN.up {K : PySem.W.Frag} {H H' : Hp} {kvs : List NE} (k : KeysN K H kvs) (t : Tups K H H') : KeysN K H' kvs := fun x hx => ⟨(k x hx).1.up t _ _, (k x hx).2⟩
theorem Tups.ext {K : PySem.W.Frag} {H H' : Hp} (e : ∀ a o, H a = some o → H' a = some o) : Tups K H H' := fun a xs h => e _ _ h
/-- an object that is no tuple is changed, or a new one laid -/
theorem Tups.put {K : PySem.W.Frag} {H : Hp} {a : Addr} {o : HO} (h : ∀ xs, ¬ Rd H a (.tup xs)) : Tups K H (upd H a o) := fun b xs q =>
  (upd_ne (fun z => h xs (.inl (by rw [← z]; exact q)))).trans q
theorem Tups.refl {K : PySem.W.Frag} {H : Hp} : Tups K H H := fun _ _ h => h
theorem Tups.trans {K : PySem.W.Frag} {H H1 H2 : Hp} (a : Tups K H H1) (b : Tups K H1 H2) : Tups K H H2 := fun p xs h => b p xs (a p xs h)
theorem not_tup_dN {H : Hp} {w : World} {d : Addr} {kvs : List NE} (h : H d = some (dN w d kvs)) : ∀ xs, ¬ Rd H d (.tup xs) := fun xs q => by
  rcases q with q | ⟨o, q⟩
  · rw [h] at q; cases q
  · rw [h] at q; cases q
theorem not_tup_none {H : Hp} {d : Addr} (h : H d = none) : ∀ xs, ¬ Rd H d (.tup xs) := fun xs q => by
  rcases q with q | ⟨o, q⟩
  · rw [h] at q; cases q
  · rw [h] at q; cases q

/-- the value at k -/
def valN (kvs : List NE) (k : NestedKey) : Option V := (kvs.find? fun x => decide (x.1 = k)).map (·.2.2)
/-- k's value made v; a new key at the end, standing at b -/
def putN (kvs : List NE) (k : NestedKey) (b : Addr) (v : V) : List NE :=
  if (valN kvs k).isSome then kvs.map fun x => if x.1 = k then (x.1, x.2.1, v) else x else kvs ++ [(k, b, v)]
def dropN (kvs : List NE) (k : NestedKey) : List NE := kvs.filter fun x => decide (x.1 ≠ k)
section
variable {w : World} {K : PySem.W.Frag} {H : Hp}
theorem NR.val {kvs : List NE} {xs : List (NestedKey × Addr × Value)} (r : NR kvs xs) (k : NestedKey) : RelO (valN kvs k) ((atKey xs k).map (·.2)) := by
  induction r with
  | nil => exact True.intro
  | @cons p q ps qs h t ih =>
    obtain ⟨h1, _, h2⟩ := h
    by_cases e : p.1 = k
    · have e' : q.1 = k := h1.symm.trans e
      have b : atKey (q :: qs) k = some q.2 := by simp [atKey, List.find?_cons, e']
      have c : valN (p :: ps) k = some p.2.2 := by simp [valN, List.find?_cons, e]
      rw [b, c]; exact h2
    · have e' : ¬ q.1 = k := fun z => e (h1.trans z)
      have b : atKey (q :: qs) k = atKey qs k := by simp [atKey, List.find?_cons, e']
      have c : valN (p :: ps) k = valN ps k := by simp [valN, List.find?_cons, e]
      rw [b, c]; exact ih
theorem NR.repl {kvs : List NE} {xs : List (NestedKey × Addr × Value)} (r : NR kvs xs) (k : NestedKey) {y : V} {u : Value} (ry : RelV y u) :
    NR (kvs.map fun x => if x.1 = k then (x.1, x.2.1, y) else x) (xs.map (putAt k u)) := by
  induction r with
  | nil => exact .nil
  | @cons p q ps qs h t ih =>
    rw [List.map_cons, List.map_cons]
    refine .cons ?_ ih
    obtain ⟨h1, h2, h3⟩ := h
    unfold putAt
    by_cases e : p.1 = k
    · rw [if_pos e, if_pos (h1.symm.trans e)]; exact ⟨h1, h2, ry⟩
    · rw [if_neg e, if_neg (fun z => e (h1.trans z))]; exact ⟨h1, h2, h3⟩
theorem NR.put {kvs : List NE} {xs : List (NestedKey × Addr × Value)} (r : NR kvs xs) (k : NestedKey) {b : Addr} {y : V} {u : Value} (ry : RelV y u) :
    NR (putN kvs k b y) (storedH xs k b u) := by
  have e : (valN kvs k).isSome = (atKey xs k).isSome := by
    rw [(r.val k).isSome_eq, Option.isSome_map]
  unfold putN storedH
  rw [e]
  by_cases q : (atKey xs k).isSome = true
  · rw [if_pos q, if_pos q]; exact r.repl k ry
  · rw [if_neg q, if_neg q]; exact Paired.snoc r ⟨rfl, rfl, ry⟩
theorem NR.drop {kvs : List NE} {xs : List (NestedKey × Addr × Value)} (r : NR kvs xs) (k : NestedKey) : NR (dropN kvs k) (withoutH xs k) := by
  induction r with
  | nil => exact .nil
  | @cons p q ps qs h t ih =>
    unfold dropN withoutH
    rw [List.filter_cons, List.filter_cons]
    by_cases e : p.1 = k
    · rw [if_neg (by simp [e]), if_neg (by simp [← h.1, e])]; exact ih
    · rw [if_pos (by simp [e]), if_pos (by simp [← h.1, e])]; exact .cons h ih
theorem length_putN (kvs : List NE) (k : NestedKey) (b : Addr) (v : V) : (putN kvs k b v).length ≤ kvs.length + 1 := by
  unfold putN
  split
  · rw [List.length_map]; omega
  · rw [List.length_append]; exact Nat.le_refl _
theorem length_dropN (kvs : List NE) (k : NestedKey) : (dropN kvs k).length ≤ kvs.length := List.length_filter_le _ _
theorem KeysN.put {kvs : List NE} {k : NestedKey} {b : Addr} {v : V} (h : KeysN K H kvs) (hk : KeyV K H k (.ref b)) (hd : k.depth ≤ 8) : KeysN K H (putN kvs k b v) := fun x hx => by
  unfold putN at hx
  split at hx
  · obtain ⟨y, hy, e⟩ := List.mem_map.mp hx
    split at e
    · subst e; exact h y hy
    · subst e; exact h y hy
  · rcases List.mem_append.mp hx with hx | hx
    · exact h x hx
    · rw [List.mem_singleton] at hx
      subst hx
      exact ⟨hk, hd⟩
theorem KeysN.drop {kvs : List NE} {k : NestedKey} (h : KeysN K H kvs) : KeysN K H (dropN kvs k) := fun x hx => h x (List.mem_filter.mp hx).1
end

section
variable {X : Cx} {pins : List (Addr × Obj)} {σ : L2.St} {H : Hp} {s : Shared} {d : Addr} {kvs : List NE}
theorem dn_ok {P : Program} {w : World} {H : Hp} {h : Heap} {d : Addr} {kvs : List NE} (x : NIn w d kvs h) : ObjOk P w H h d (dN w d kvs) :=
  ⟨x, let ⟨_, _, _, _, o, _, _, ho, _⟩ := x; ⟨o, ho⟩, fun h1 h2 x k => let ⟨z, y, xs, r, o, es, ep, ho, q⟩ := x; ⟨z, y, xs, r, o, es, ep, k o ho, q⟩⟩
/-- in the heap itself -/
theorem dn_rd (I : Inv X pins σ H s) (e : Rd H d (dN X.w d kvs)) (ks : KeysN X.K H kvs) : kvs.length ≤ sizeLine ∧ (d == sysModules) = false ∧
    ∃ xs, NR kvs xs ∧ s.heap.DictOfH (nestedKind X.prog X.w) d xs := by
  obtain ⟨⟨z, y, xs, r, o, es, ep, h1, h2, h3, h4, h5⟩, _, _⟩ := (show ObjOk X.prog X.w H s.heap d (dN X.w d kvs) from rd_of I.hok e)
  refine ⟨z, y, xs, r, o, es, ep, h1, h2, h3, h4, fun x hx => ?_, h5⟩
  have all : ∀ {l : List NE} {m : List (NestedKey × Addr × Value)}, NR l m → KeysN X.K H l → ∀ x ∈ m, (nestedKind X.prog X.w).is s.heap x.1 x.2.1 := by
    intro l m q
    induction q with
    | nil => intro _ x hx; exact nomatch hx
    | @cons p q ps qs hq t ih =>
      intro hl x hx
      rcases List.mem_cons.mp hx with e | hx
      · subst e
        obtain ⟨a, b⟩ := hl p (List.mem_cons_self ..)
        refine ⟨?_, by rw [← hq.1]; exact b⟩
        rw [← hq.1, ← hq.2.1]
        exact a.is I _ _ _ rfl
      · exact ih (fun y hy => hl y (List.mem_cons_of_mem _ hy)) x hx
  exact all r ks x hx
theorem NIn.of {P : Program} {w : World} {h : Heap} {d : Addr} {kvs : List NE} {xs : List (NestedKey × Addr × Value)} (z : kvs.length ≤ sizeLine) (y : (d == sysModules) = false) (r : NR kvs xs) (dd : h.DictOfH (nestedKind P w) d xs) : NIn w d kvs h := by
  obtain ⟨o, es, ep, h1, h2, h3, h4, _, h5⟩ := dd
  exact ⟨z, y, xs, r, o, es, ep, h1, h2, h3, h4, h5⟩
end

/-! ### what is done with it -/
section
variable {X : Cx} {pins : List (Addr × Obj)} {σ : L2.St} {H : Hp} {s : Shared} {a b : Addr} {kvs : List NE} {k : NestedKey} {v : V} {r : Value} {A : Around} {E : Value → Shared → Prop}
theorem nis (I : Inv X pins σ H s) (hk : KeyV X.K H k (.ref b)) (hd : k.depth ≤ 8) : (nestedKind X.prog X.w).is s.heap k b := ⟨hk.is I _ _ _ rfl, hd⟩
theorem nroom {P : Program} {w : World} (hu : A.units + 9 < cLine) : (nestedKind P w).room A.in1 := show A.in1.units + 8 < cLine by rw [Around.in1_units]; omega
theorem nroom0 {P : Program} {w : World} (hu : A.units + 8 < cLine) : (nestedKind P w).room A := hu
theorem n_getItem {Q : Value → Shared → Prop} (hu : A.units + 9 < cLine) (I : Inv X pins σ H s) (e : Rd H a (dN X.w a kvs)) (ks : KeysN X.K H kvs) (hk : KeyV X.K H k (.ref b)) (hd : k.depth ≤ 8) (hv : valN kvs k = some v)
    (h : ∀ w' s', Inv X pins σ H s' → RelV v w' → Q w' s') : wpAny (model X.prog X.w) A (getItem (.ref a) (.ref b)) Q E s := by
  obtain ⟨z, hs, xs, rel, dd⟩ := dn_rd I e ks
  obtain ⟨w', hw, rw'⟩ := RelO.some_of (v := v) (o := (atKey xs k).map (·.2)) (by rw [← hv]; exact rel.val k)
  obtain ⟨p, hp, hp2⟩ := Option.map_eq_some_iff.mp hw
  refine wpAny_getItem_heap (knd := nestedKind X.prog X.w) (nroom hu) (nis I hk hd) dd hp ?_
  rw [hp2]
  exact h w' _ (I.tok _) rw'
theorem n_setItem {Q : Unit → Shared → Prop} (hu : A.units + 9 < cLine) (I : Inv X pins σ H s) (e : H a = some (dN X.w a kvs)) (ks : KeysN X.K H kvs) (hl : kvs.length < sizeLine) (hk : KeyV X.K H k (.ref b)) (hd : k.depth ≤ 8) (rv : RelV v r)
    (h : ∀ s', Inv X pins σ (upd H a (dN X.w a (putN kvs k b v))) s' → Q () s') : wpAny (model X.prog X.w) A (setItem (.ref a) (.ref b) r) Q E s := by
  obtain ⟨z, hs, xs, rel, dd⟩ := dn_rd I (.inl e) ks
  have hz : xs.length ≤ sizeLine := by rw [← Paired.length rel]; exact z
  refine wpAny_setItem_heap (knd := nestedKind X.prog X.w) (hsz := hz) (nroom hu) (nis I hk hd) dd fun h' dd' hs' => h _ ?_
  have he : ∃ q, h'.get? a = some q := let ⟨q, _, _, hq, _⟩ := dd'; ⟨q, hq⟩
  refine d_write I (by rw [e]; exact True.intro) hs' he (dn_ok (NIn.of ?_ hs (rel.put k rv) dd'))
  have := length_putN kvs k b v
  omega
theorem n_dictSet {Q : Unit → Shared → Prop} (hu : A.units + 8 < cLine) (I : Inv X pins σ H s) (e : H a = some (dN X.w a kvs)) (ks : KeysN X.K H kvs) (hl : kvs.length < sizeLine) (hk : KeyV X.K H k (.ref b)) (hd : k.depth ≤ 8) (rv : RelV v r)
    (h : ∀ s', Inv X pins σ (upd H a (dN X.w a (putN kvs k b v))) s' → Q () s') : wpAny (model X.prog X.w) A (dictSet a (.ref b) r) Q E s := by
  obtain ⟨z, hs, xs, rel, dd⟩ := dn_rd I (.inl e) ks
  have hz : xs.length ≤ sizeLine := by rw [← Paired.length rel]; exact z
  refine wpAny_dictSet_heap (knd := nestedKind X.prog X.w) (hsz := hz) (nroom0 hu) (nis I hk hd) dd fun h' dd' hs' => h _ ?_
  have he : ∃ q, h'.get? a = some q := let ⟨q, _, _, hq, _⟩ := dd'; ⟨q, hq⟩
  refine d_write I (by rw [e]; exact True.intro) hs' he (dn_ok (NIn.of ?_ hs (rel.put k rv) dd'))
  have := length_putN kvs k b v
  omega
theorem n_delItem {Q : Unit → Shared → Prop} (hu : A.units + 9 < cLine) (I : Inv X pins σ H s) (e : H a = some (dN X.w a kvs)) (ks : KeysN X.K H kvs) (hk : KeyV X.K H k (.ref b)) (hd : k.depth ≤ 8) (hv : (valN kvs k).isSome = true)
    (h : ∀ s', Inv X pins σ (upd H a (dN X.w a (dropN kvs k))) s' → Q () s') : wpAny (model X.prog X.w) A (delItem (.ref a) (.ref b)) Q E s := by
  obtain ⟨z, hs, xs, rel, dd⟩ := dn_rd I (.inl e) ks
  have hz : xs.length ≤ sizeLine := by rw [← Paired.length rel]; exact z
  have q := (rel.val k).isSome_eq
  rw [hv, Option.isSome_map] at q
  obtain ⟨p, hp⟩ := Option.isSome_iff_exists.mp q.symm
  refine wpAny_delItem_heap (knd := nestedKind X.prog X.w) (hsz := hz) (nroom hu) (nis I hk hd) hs dd hp fun h' dd' hs' => h _ ?_
  have he : ∃ q, h'.get? a = some q := let ⟨q, _, _, hq, _⟩ := dd'; ⟨q, hq⟩
  exact d_write I (by rw [e]; exact True.intro) hs' he (dn_ok (NIn.of (Nat.le_trans (length_dropN kvs k) z) hs (rel.drop k) dd'))
theorem n_get2 {y : V} {u : Value} {Q : Value → Shared → Prop} (hu : A.units + 9 < cLine) (I : Inv X pins σ H s) (e : Rd H a (dN X.w a kvs)) (ks : KeysN X.K H kvs) (hk : KeyV X.K H k (.ref b)) (hd : k.depth ≤ 8) (ry : RelV y u)
    (h : ∀ w' s', Inv X pins σ H s' → RelV ((valN kvs k).getD y) w' → Q w' s') : wpAny (model X.prog X.w) A (call (.builtin "dict.get") [.ref a, .ref b, u]) Q E s := by
  obtain ⟨z, hs, xs, rel, dd⟩ := dn_rd I e ks
  refine call_meetsIn PySem.F.slot_dict_get dd.typeIs PySem.F.entry_dict_get (PySem.F.args_dict_get_3 _ _ _) (meetsH_dict_get_default (nestedKind X.prog X.w) a b hs u) ⟨nroom hu, k, xs, (nis I hk hd), dd, h _ _ (I.tok _) ?_⟩
  exact (rel.val k).getD ry
end

/-! ### readings and rules -/
/-- d[y] -/
def tNGet (K : PySem.W.Frag) (w : World) (td ty : TE) : TE := fun σ H Q => td σ H fun x H1 => ty σ H1 fun y H2 => ∃ a b kvs k v, x = .ref a ∧ y = .ref b ∧ Rd H2 a (dN w a kvs) ∧ KeysN K H2 kvs ∧ KeyV K H2 k (.ref b) ∧ k.depth ≤ 8 ∧ valN kvs k = some v ∧ Q v H2
/-- d.get(y, z) -/
def tNGet2 (K : PySem.W.Frag) (w : World) (td ty tz : TE) : TE := fun σ H Q => td σ H fun x H1 => ∃ a kvs, x = .ref a ∧ Rd H1 a (dN w a kvs) ∧ KeysN K H1 kvs ∧ ty σ H1 fun y H2 => tz σ H2 fun z H3 => ∃ b k, y = .ref b ∧ Rd H3 a (dN w a kvs) ∧ KeysN K H3 kvs ∧ KeyV K H3 k (.ref b) ∧ k.depth ≤ 8 ∧ Q ((valN kvs k).getD z) H3
/-- d[y] = v -/
def sNPut (K : PySem.W.Frag) (w : World) (td ty tv : TE) : TS := fun D σ H => tv σ H fun v H1 => td σ H1 fun x H2 => ty σ H2 fun y H3 => ∃ a b kvs k, x = .ref a ∧ y = .ref b ∧ H3 a = some (dN w a kvs) ∧ KeysN K H3 kvs ∧ kvs.length < sizeLine ∧ KeyV K H3 k (.ref b) ∧ k.depth ≤ 8 ∧ D.nx σ (upd H3 a (dN w a (putN kvs k b v)))
/-- del d[y] -/
def sNDel (K : PySem.W.Frag) (w : World) (td ty : TE) : TS := fun D σ H => td σ H fun x H1 => ty σ H1 fun y H2 => ∃ a b kvs k, x = .ref a ∧ y = .ref b ∧ H2 a = some (dN w a kvs) ∧ KeysN K H2 kvs ∧ KeyV K H2 k (.ref b) ∧ k.depth ≤ 8 ∧ (valN kvs k).isSome = true ∧ D.nx σ (upd H2 a (dN w a (dropN kvs k)))
/-- {} -/
def tNNew (w : World) : TE := fun _ H Q => ∀ p, H p = none → Q (.ref p) (upd H p (dN w p []))
def rNLen (K : PySem.W.Frag) (w : World) : List V → Hp → VK → Prop := fun xs H Q => ∃ (p : Addr) (kvs : List NE), xs = [.ref p] ∧ Rd H p (dN w p kvs) ∧ KeysN K H kvs ∧ Q (.int ((kvs.length : Nat) : Int)) H
theorem dn_empty {P : Program} {w : World} {H : Hp} (h : Heap) (hb : sysModules < h.objs.size) : ObjOk P w H (h.push { cls := .type "dict", data := .dict #[] }) h.objs.size (dN w h.objs.size []) :=
  dn_ok ⟨Nat.zero_le _, beq_eq_false_iff_ne.mpr (Ne.symm (Nat.ne_of_lt hb)), [], .nil, _, #[], 0, Heap.get?_push_size _ rfl, ⟨rfl, rfl, rfl⟩, rfl, rfl, List.nodup_nil⟩
section
variable {X : Cx} {o i e f value : Expr} {pos pos' tpos apos cpos : Pos} {td ty tv tx : TE}
theorem dn_type {pins : List (Addr × Obj)} {σ : L2.St} {H : Hp} {s : Shared} {a : Addr} {kvs : List NE} (I : Inv X pins σ H s) (e : Rd H a (dN X.w a kvs)) :
    s.TypeIs (.ref a) "dict" ∧ (∀ b, Value.ref a = .ref b → ∃ ob, s.heap.get? b = some ob ∧ ob.dict = none) ∧ (a == sysModules) = false := by
  obtain ⟨⟨z, y, xs, r, ob, es, ep, h1, h2, h3, h4, h5⟩, _, _⟩ := (show ObjOk X.prog X.w H s.heap a (dN X.w a kvs) from rd_of I.hok e)
  refine ⟨⟨ob, h1, h2.1⟩, fun b q => ?_, y⟩
  cases q
  exact ⟨ob, h1, h2.2.1⟩
theorem pe_nget (hu : X.A.units + 9 < cLine) (ho : PE X o td) (hi : PE X i ty) (hs : NoSl i) : PE X (.Subscript o i pos) (tNGet X.K X.w td ty) := by
  refine ⟨fun pins s σ H Q I h => ?_⟩
  refine subD_of PySem.F.slot_dict_getitem.lookup hs (thn (ho.run pins s σ H _ I h) fun u s1 ⟨x, H1, I1, rx, q1⟩ => thn (hi.run pins s1 σ H1 _ I1 q1) fun iv s2 ⟨y, H2, I2, ry, a, b, kvs, k, v, ex, ey, g, ks, hk, hd, hv, q2⟩ => ?_)
  subst ex ey
  obtain rfl : u = Value.ref a := rx
  obtain rfl : iv = Value.ref b := ry
  exact ⟨(dn_type I2 g).1, n_getItem hu I2 g ks hk hd hv fun w' s3 I3 rw' => ⟨v, H2, I3, rw', q2⟩⟩
theorem ps_nput (hu : X.A.units + 9 < cLine) (ho : PE X o td) (hi : PE X i ty) (hv : PE X value tv) (hs : swapsWith value (some (.Subscript o i pos')) pos.line X.env = pure false) :
    PS X (.Assign [.Subscript o i pos'] value pos) (sNPut X.K X.w td ty tv) := by
  refine ⟨fun pins s σ H D I h => ?_⟩
  refine wpAny_Assign_Subscript (thn (hv.run pins s σ H _ I h) fun r s1 ⟨v, H1, I1, rv, q1⟩ => thn (ho.run pins s1 σ H1 _ I1 q1) fun u s2 ⟨x, H2, I2, rx, q2⟩ => thn (hi.run pins s2 σ H2 _ I2 q2) fun iv s3 ⟨y, H3, I3, ry, a, b, kvs, k, ex, ey, g, ks, hl, hk, hd, q3⟩ => ?_) hs
  subst ex ey
  obtain rfl : u = Value.ref a := rx
  obtain rfl : iv = Value.ref b := ry
  exact n_setItem hu I3 g ks hl hk hd rv fun s4 I4 => ⟨σ, _, I4, q3⟩
theorem ps_ndel (hu : X.A.units + 9 < cLine) (ho : PE X o td) (hi : PE X i ty) : PS X (.Delete [.Subscript o i tpos] pos) (sNDel X.K X.w td ty) := by
  refine ⟨fun pins s σ H D I h => ?_⟩
  refine wpAny_Delete (wpAny_deleteEach_cons (wpAny_delete_Subscript (thn (ho.run pins s σ H _ I h) fun u s1 ⟨x, H1, I1, rx, q1⟩ => thn (hi.run pins s1 σ H1 _ I1 q1) fun iv s2 ⟨y, H2, I2, ry, a, b, kvs, k, ex, ey, g, ks, hk, hd, hv, q2⟩ => ?_)))
  subst ex ey
  obtain rfl : u = Value.ref a := rx
  obtain rfl : iv = Value.ref b := ry
  exact n_delItem hu I2 g ks hk hd hv fun s3 I3 => wpAny_deleteEach_nil ⟨σ, _, I3, q2⟩
theorem pe_nget2 (hu : X.A.units + 9 < cLine) (ho : PE X o td) (he : PE X e ty) (hf : PE X f tx) (m : M2 X o "get" apos e f cpos) : PE X (.Call (.Attribute o "get" apos) [e, f] [] cpos) (tNGet2 X.K X.w td ty tx) := by
  refine ⟨fun pins s σ H Q I h => ?_⟩
  refine wpAny_Call_method m.base m.few m.line PySem.F.plainAttrs_dict PySem.F.slot_dict_get PySem.F.type_dict_get (thn (ho.run pins s σ H _ I h) fun u s1 ⟨x, H1, I1, rx, a, kvs, ex, d, ks, q1⟩ => ?_)
  subst ex
  obtain rfl : u = Value.ref a := rx
  obtain ⟨t1, t2, _⟩ := dn_type I1 d
  refine ⟨t1, t2, ?_⟩
  rw [m.trees]
  refine Calls.callWith_builtin rfl (Calls.evalArgs_plain (Calls.spliced_cons (thn (he.run pins s1 σ H1 _ I1 q1) fun iv s2 ⟨y, H2, I2, ry, q2⟩ =>
    Calls.spliced_cons (thn (hf.run pins s2 σ H2 _ I2 q2) fun fv s3 ⟨z, H3, I3, rz, b, k, ey, g, ks3, hk, hd, q3⟩ => Calls.spliced_nil ?_))))
  subst ey
  obtain rfl : iv = Value.ref b := ry
  exact n_get2 hu I3 g ks3 hk hd rz fun w' s4 I4 rw' => ⟨_, H3, I4, rw', q3⟩
theorem pe_nnew : PE X (.Dict [] [] pos) (tNNew X.w) := ⟨fun pins s σ H Q I h =>
  wpAny_Dict_empty ⟨.ref s.heap.objs.size, _, I.laid (a := s.heap.objs.size) (o := dN X.w s.heap.objs.size []) (t' := s.toks) (fun _ _ q => Heap.get?_push_of_some _ q) (Nat.le_refl _) (dn_empty s.heap I.big), rfl, h _ (I.hok.fresh (Nat.le_refl _))⟩⟩
theorem call_len_dn : CallR X (.builtin "len") (rNLen X.K X.w) := by
  intro pins s σ H xs us Q I r h
  obtain ⟨p, kvs, rfl, hp, ks, q⟩ := h
  obtain ⟨u, rfl, rx⟩ := vals1 r
  obtain rfl : u = .ref p := rx
  obtain ⟨z, hd, ys, rel, dd⟩ := dn_rd I hp ks
  have hl : kvs.length = ys.length := Paired.length rel
  refine call_len_dictH hd dd (by rw [← hl]; rw [sizeLine_eq] at z; omega) ?_
  rw [← hl]
  exact ⟨.int ((kvs.length : Nat) : Int), H, I.tok _, ⟨_, rfl⟩, q⟩
end
end K1D

set_option Elab.async false
set_option linter.all false
set_option maxRecDepth 100000
set_option maxHeartbeats 4000000
/-! Walks over a dict of nested keys: for k in d, d.values(), d.items(). Speaks of no program. -/
namespace K1D
open PySem PySem.Spec PyProof.Rows L2
theorem nr_get {kvs : List NE} {xs : List (NestedKey × Addr × Value)} (h : NR kvs xs) {i : Nat} {x : NE} (e : kvs[i]? = some x) : ∃ u, xs[i]? = some (x.1, x.2.1, u) ∧ RelV x.2.2 u := by
  obtain ⟨b, hb, h1, h2, h3⟩ := paired_get h e
  exact ⟨b.2.2, by rw [hb, h1, h2], h3⟩
section
variable {X : Cx} {pins : List (Addr × Obj)} {σ : L2.St} {H : Hp} {s : Shared} {d : Addr} {o : Obj} {kvs : List NE}
/-- what is known of a locked one -/
theorem Inv.frzN (I : Inv X pins σ H s) (h : H d = some (.frz o (dN X.w d kvs))) :
    (d == sysModules) = false ∧ kvs.length ≤ sizeLine ∧ ∃ (es : Array DictEntry) (ep : Nat), o.data = .dict es ep ∧ s.heap.DictRaw d es ep ∧ es.size = kvs.length ∧
      ∀ (i : Nat) (x : NE) (hi : i < es.size), kvs[i]? = some x → es[i].key = .ref x.2.1 ∧ RelV x.2.2 es[i].val := by
  obtain ⟨hd, ⟨z, hs, xs, r, o', es, ep, ho, hx, hdt, he, _⟩, _⟩ := I.hok d _ h
  rw [hd] at ho
  cases ho
  refine ⟨hs, z, es, ep, hdt, ⟨o, hd, hx, hdt⟩, ?_, fun i x hi e => ?_⟩
  · have l1 : es.toList.length = xs.length := by rw [he, List.length_map]
    have l2 : kvs.length = xs.length := Paired.length r
    rw [Array.length_toList] at l1
    omega
  · obtain ⟨u, hu, ru⟩ := nr_get r e
    have q : es.toList[i]? = some (entN X.w (x.1, x.2.1, u)) := by rw [he, List.getElem?_map, hu]; rfl
    have q2 : es[i] = entN X.w (x.1, x.2.1, u) := by
      rw [List.getElem?_eq_getElem (by simpa using hi)] at q
      simpa using q
    rw [q2]
    exact ⟨rfl, ru⟩
end
/-- the keys of the locked dict at d, in their order: where they stand -/
def Itnk (w : World) (d : Addr) (o : Obj) (kvs : List NE) : It :=
  ⟨fun i H => H d = some (.frz o (dN w d kvs)) ∧ i < kvs.length, fun i H x H' => H' = H ∧ ∃ e, kvs[i]? = some e ∧ x = .ref e.2.1, fun i H => H d = some (.frz o (dN w d kvs)) ∧ kvs.length ≤ i⟩
/-- the values -/
def Itnv (w : World) (d : Addr) (o : Obj) (kvs : List NE) : It :=
  ⟨fun i H => H d = some (.frz o (dN w d kvs)) ∧ i < kvs.length, fun i H x H' => H' = H ∧ ∃ e, kvs[i]? = some e ∧ x = e.2.2, fun i H => H d = some (.frz o (dN w d kvs)) ∧ kvs.length ≤ i⟩
/-- the pairs, each a new tuple -/
def Itni (w : World) (d : Addr) (o : Obj) (kvs : List NE) : It :=
  ⟨fun i H => H d = some (.frz o (dN w d kvs)) ∧ i < kvs.length, fun i H x H' => ∃ T e, kvs[i]? = some e ∧ x = .ref T ∧ H T = none ∧ H' = upd H T (.tup [.ref e.2.1, e.2.2]), fun i H => H d = some (.frz o (dN w d kvs)) ∧ kvs.length ≤ i⟩
section
variable {P : Program} {w : World} {K : PySem.W.Frag} {tg : Expr} {d : Addr} {o : Obj} {es : Array DictEntry} {ep : Nat}
theorem turn_nkeys {kvs : List NE} (it : Addr) (hod : o.data = .dict es ep) (hsz : es.size = kvs.length) : Turn P w K tg (Itnk w d o kvs) [it] it (fun i h => h.IsKeyIter it d i es.size ep) where
  mem := by simp
  obj := fun i h st b hb => by
    have e : b = it := by simpa using hb
    subst e
    obtain ⟨oi, e, c, dd⟩ := st
    exact ⟨oi, e, fun v z => by rw [dd] at z; cases z⟩
  keep := fun i h h' st k => st.at fun oi e => k it (by simp) oi e
  item := by
    intro X hP hw hK hc i pins s σ H E I hf st hg
    subst hP hw hK
    obtain ⟨hd, hi⟩ := hg
    obtain ⟨f0, f1, f2, f3, f4, f5⟩ := hf it (by simp)
    obtain ⟨hs, hz, es', ep', hdt, raw, _, ent⟩ := Inv.frzN I hd
    obtain ⟨rfl, rfl⟩ := dict_ep hod hdt
    have hkv : kvs[i]? = some kvs[i] := List.getElem?_eq_getElem hi
    have hlt : i < es'.size := by rw [hsz]; exact hi
    obtain ⟨hkey, _⟩ := ent i _ hlt hkv
    refine wpAny_pyNext_keys_item_raw st raw hlt fun h' st' sb => ?_
    have I1 : Inv X pins σ H { s with heap := h' } := I.turned (t' := s.toks) (fun b ob hb e => (sb.2 b hb).trans e) f0 f1 f3 f4 f5
    obtain ⟨oi, e, c, dd⟩ := id st'
    exact ⟨es'[i].key, rfl, go_of (s := { s with heap := h' }) e c dd (by decide) ⟨.ref kvs[i].2.1, H, I1, hkey, ⟨rfl, _, hkv, rfl⟩, st', fun b hb => (hf b hb).1⟩⟩
  done := by
    intro X hP hw hK hc i pins s σ H E I hf st hg
    subst hP hw hK
    obtain ⟨hd, hi⟩ := hg
    obtain ⟨f0, f1, f2, f3, f4, f5⟩ := hf it (by simp)
    obtain ⟨hs, hz, es', ep', hdt, raw, _, ent⟩ := Inv.frzN I hd
    obtain ⟨rfl, rfl⟩ := dict_ep hod hdt
    exact wpAny_pyNext_keys_end_raw (I.ok.hd hc) st raw (by rw [hsz]; exact hi) fun h' eb => ⟨rfl, I.turned (t' := s.toks) (fun b ob hb e => eb b ob hb e) f0 f1 f3 f4 f5⟩
  self := fun A i s Q E st h => by
    refine wpAny_pyIter_slot st.typeIs F.slot_dict_keyiterator_iter (wpAny_call_entry F.slot_dict_keyiterator_iter st.typeIs F.entry_dict_keyiterator_iter ?_ (F.args_dict_keyiterator_iter_1 _))
    show wpAny _ _ (ret (.ref it)) _ _ s
    exact wpAny_pure ⟨_, rfl, "dict_keyiterator", _, st.typeIs, F.slot_dict_keyiterator_next.lookup, h⟩
theorem turn_nvals {kvs : List NE} (it : Addr) (hod : o.data = .dict es ep) (hsz : es.size = kvs.length) : Turn P w K tg (Itnv w d o kvs) [it] it (fun i h => h.IsValIter it d i es.size ep) where
  mem := by simp
  obj := fun i h st b hb => by
    have e : b = it := by simpa using hb
    subst e
    obtain ⟨oi, e, c, dd⟩ := st
    exact ⟨oi, e, fun v z => by rw [dd] at z; cases z⟩
  keep := fun i h h' st k => st.at fun oi e => k it (by simp) oi e
  item := by
    intro X hP hw hK hc i pins s σ H E I hf st hg
    subst hP hw hK
    obtain ⟨hd, hi⟩ := hg
    obtain ⟨f0, f1, f2, f3, f4, f5⟩ := hf it (by simp)
    obtain ⟨hs, hz, es', ep', hdt, raw, _, ent⟩ := Inv.frzN I hd
    obtain ⟨rfl, rfl⟩ := dict_ep hod hdt
    have hkv : kvs[i]? = some kvs[i] := List.getElem?_eq_getElem hi
    have hlt : i < es'.size := by rw [hsz]; exact hi
    obtain ⟨_, hval⟩ := ent i _ hlt hkv
    refine wpAny_pyNext_values_item_raw st raw hlt fun h' st' sb => ?_
    have I1 : Inv X pins σ H { s with heap := h' } := I.turned (t' := s.toks) (fun b ob hb e => (sb.2 b hb).trans e) f0 f1 f3 f4 f5
    obtain ⟨oi, e, c, dd⟩ := id st'
    exact ⟨es'[i].val, rfl, go_of (s := { s with heap := h' }) e c dd (by decide) ⟨kvs[i].2.2, H, I1, hval, ⟨rfl, _, hkv, rfl⟩, st', fun b hb => (hf b hb).1⟩⟩
  done := by
    intro X hP hw hK hc i pins s σ H E I hf st hg
    subst hP hw hK
    obtain ⟨hd, hi⟩ := hg
    obtain ⟨f0, f1, f2, f3, f4, f5⟩ := hf it (by simp)
    obtain ⟨hs, hz, es', ep', hdt, raw, _, ent⟩ := Inv.frzN I hd
    obtain ⟨rfl, rfl⟩ := dict_ep hod hdt
    exact wpAny_pyNext_values_end_raw (I.ok.hd hc) st raw (by rw [hsz]; exact hi) fun h' eb => ⟨rfl, I.turned (t' := s.toks) (fun b ob hb e => eb b ob hb e) f0 f1 f3 f4 f5⟩
  self := fun A i s Q E st h => wpAny_pyIter_valiter st h
theorem turn_nitems {kvs : List NE} {elts : List Expr} {kk : Nat} {tpos : Pos} (it : Addr) (hod : o.data = .dict es ep) (hsz : es.size = kvs.length) :
    Turn P w K (.Tuple elts kk tpos) (Itni w d o kvs) [it] it (fun i h => ∃ ok ov, IsItemIter h it d i es.size ep ok ov) where
  mem := by simp
  obj := fun i h st b hb => by
    have e : b = it := by simpa using hb
    subst e
    obtain ⟨ok, ov, e⟩ := st
    exact ⟨_, e, fun v z => nomatch z⟩
  keep := fun i h h' st k => let ⟨ok, ov, e⟩ := st; ⟨ok, ov, k it (by simp) _ e⟩
  item := by
    intro X hP hw hK hc i pins s σ H E I hf st hg
    subst hP hw hK
    obtain ⟨hd, hi⟩ := hg
    obtain ⟨hs, hz, es', ep', hdt, raw, _, ent⟩ := Inv.frzN I hd
    obtain ⟨rfl, rfl⟩ := dict_ep hod hdt
    have hkv : kvs[i]? = some kvs[i] := List.getElem?_eq_getElem hi
    have hlt : i < es'.size := by rw [hsz]; exact hi
    obtain ⟨hkey, hval⟩ := ent i _ hlt hkv
    obtain ⟨ok, ov, he⟩ := st
    have hlt' : it < s.heap.objs.size := Heap.lt_size he
    refine wpAny_pyNext_items_item_raw he raw hlt fun h' ho hT hz' hk => ?_
    refine ⟨_, rfl, wpAny_letOwnedTupleGo_items (s := { s with heap := h' }) ho fun h'' he' sb => ?_⟩
    have hT2 : h''.get? s.heap.objs.size = some { cls := .type "tuple", data := .seq #[es'[i].key, es'[i].val] } := (sb.2 _ (Nat.ne_of_gt hlt')).trans hT
    have new : ObjOk X.prog X.w (upd H s.heap.objs.size (.tup [.ref kvs[i].2.1, kvs[i].2.2])) h'' s.heap.objs.size (.tup [.ref kvs[i].2.1, kvs[i].2.2]) :=
      ⟨by show 2 ≤ sizeLine; decide, [es'[i].key, es'[i].val], .cons hkey (.cons hval .nil), ⟨_, hT2, rfl, _, rfl⟩⟩
    have I1 : Inv X pins σ (upd H s.heap.objs.size (.tup [.ref kvs[i].2.1, kvs[i].2.2])) { s with heap := h'' } :=
      I.turnedNew (t' := s.toks) (ch := [it]) (fun b ob hb e => (sb.2 b (by simpa using hb)).trans (hk b ob (by simpa using hb) e)) hf (Nat.le_refl _) new
    refine ⟨.ref s.heap.objs.size, _, I1, rfl, ⟨_, _, hkv, rfl, I.hok.fresh (Nat.le_refl _), rfl⟩, ⟨es'[i].key, es'[i].val, he'⟩, fun b hb => ?_⟩
    have e : b = it := by simpa using hb
    rw [e, upd_ne (Nat.ne_of_lt hlt')]
    exact (hf it (by simp)).1
  done := by
    intro X hP hw hK hc i pins s σ H E I hf st hg
    subst hP hw hK
    obtain ⟨hd, hi⟩ := hg
    obtain ⟨f0, f1, f2, f3, f4, f5⟩ := hf it (by simp)
    obtain ⟨hs, hz, es', ep', hdt, raw, _, ent⟩ := Inv.frzN I hd
    obtain ⟨rfl, rfl⟩ := dict_ep hod hdt
    obtain ⟨ok, ov, he⟩ := st
    exact wpAny_pyNext_items_end_raw (I.ok.hd hc) he raw (by rw [hsz]; exact hi) fun h' eb => ⟨rfl, I.turned (t' := s.toks) (fun b ob hb e => eb b ob hb e) f0 f1 f3 f4 f5⟩
  self := fun A i s Q E st h => let ⟨_, _, e⟩ := st; PySem.W.kcp_self e h
end
/-- the dict is locked -/
def iNKeys (w : World) (td : TE) : TI := fun σ H R => td σ H fun x H1 => ∃ d o kvs, x = .ref d ∧ H1 d = some (.frz o (dN w d kvs)) ∧ R (Itnk w d o kvs) H1
def iNVals (w : World) (td : TE) : TI := fun σ H R => td σ H fun x H1 => ∃ d o kvs, x = .ref d ∧ H1 d = some (.frz o (dN w d kvs)) ∧ R (Itnv w d o kvs) H1
def iNItems (w : World) (td : TE) : TI := fun σ H R => td σ H fun x H1 => ∃ d o kvs, x = .ref d ∧ H1 d = some (.frz o (dN w d kvs)) ∧ R (Itni w d o kvs) H1
section
variable {X : Cx} {tg e : Expr} {td : TE} {apos cpos : Pos}
theorem pi_nkeys (he : PE X e td) : PI X tg e (iNKeys X.w td) := by
  refine ⟨fun pins s σ H R I h => ?_⟩
  refine thn (he.run pins s σ H _ I h) fun u s1 ⟨x, H1, I1, rx, d, o, kvs, ex, hd, q⟩ => ?_
  subst ex
  obtain rfl : u = Value.ref d := rx
  obtain ⟨hs, hz, es, ep, hdt, raw, hsz, ent⟩ := Inv.frzN I1 hd
  exact wpAny_pyIter_dict_raw hs raw (pi_one (tk := s1.toks) I1 _ (turn_nkeys _ hdt hsz) ⟨_, Heap.get?_push_size _ rfl, rfl, rfl⟩ q)
theorem pi_nvalues (he : PE X e td) (hbase : attributeBase e "values" X.env (eval e X.env) = eval e X.env := by rfl) (hline : (apos.endLine == cpos.line) = true := by rfl) : PI X tg (.Call (.Attribute e "values" apos) [] [] cpos) (iNVals X.w td) := by
  refine ⟨fun pins s σ H R I h => ?_⟩
  refine wpAny_Call_method (T := "dict") (id := "dict.values") hbase rfl hline F.plainAttrs_dict F.slot_dict_values F.type_dict_values (thn (he.run pins s σ H _ I h) fun u s1 ⟨x, H1, I1, rx, d, o, kvs, ex, hd, q⟩ => ?_)
  subst ex
  obtain rfl : u = Value.ref d := rx
  obtain ⟨hs, hz, es, ep, hdt, raw, hsz, ent⟩ := Inv.frzN I1 hd
  refine ⟨raw.typeIs, fun b q => ?_, ?_⟩
  · cases q
    obtain ⟨ob, h1, h2, _⟩ := raw
    exact ⟨ob, h1, h2.2.1⟩
  have I2 : Inv X pins σ H1 { s1 with heap := s1.heap.push { cls := .type "dict_values", data := .fields #[.ref d] } } := I1.kept (t' := s1.toks) fun b ob q => Heap.get?_push_of_some _ q
  have fin : wpAny (model X.prog X.w) X.A (pyIter (.ref s1.heap.objs.size)) (PIE X pins σ tg R) X.xe { s1 with heap := s1.heap.push { cls := .type "dict_values", data := .fields #[.ref d] } } :=
    wpAny_pyIter_values_raw (d := d) ⟨_, Heap.get?_push_size _ rfl, rfl, rfl⟩ (raw.at fun o q => Heap.get?_push_of_some _ q) (pi_one (tk := s1.toks) I2 _ (turn_nvals _ hdt hsz) ⟨_, Heap.get?_push_size _ rfl, rfl, rfl⟩ q)
  show wpAny _ _ (callWith cpos (.builtin "dict.values") [.ref d] [] []) _ X.xe s1
  exact method_meetsIn F.slot_dict_values F.entry_dict_values rfl (PySem.evalArgs_none ⟨rfl, raw.typeIs, F.args_dict_values_1 _, _, meets_dict_values_raw d hs, ⟨es, ep, raw⟩, fin⟩)
theorem pi_nitems {elts : List Expr} {kk : Nat} {tpos : Pos} (he : PE X e td) (hbase : attributeBase e "items" X.env (eval e X.env) = eval e X.env := by rfl) (hline : (apos.endLine == cpos.line) = true := by rfl) :
    PI X (.Tuple elts kk tpos) (.Call (.Attribute e "items" apos) [] [] cpos) (iNItems X.w td) := by
  refine ⟨fun pins s σ H R I h => ?_⟩
  refine wpAny_Call_method (T := "dict") (id := "dict.items") hbase rfl hline F.plainAttrs_dict F.slot_dict_items F.type_dict_items (thn (he.run pins s σ H _ I h) fun u s1 ⟨x, H1, I1, rx, d, o, kvs, ex, hd, q⟩ => ?_)
  subst ex
  obtain rfl : u = Value.ref d := rx
  obtain ⟨hs, hz, es, ep, hdt, raw, hsz, ent⟩ := Inv.frzN I1 hd
  refine ⟨raw.typeIs, fun b q => ?_, ?_⟩
  · cases q
    obtain ⟨ob, h1, h2, _⟩ := raw
    exact ⟨ob, h1, h2.2.1⟩
  have I2 : Inv X pins σ H1 { s1 with heap := s1.heap.push { cls := .type "dict_items", data := .fields #[.ref d] } } := I1.kept (t' := s1.toks) fun b ob q => Heap.get?_push_of_some _ q
  have fin : wpAny (model X.prog X.w) X.A (pyIter (.ref s1.heap.objs.size)) (PIE X pins σ (.Tuple elts kk tpos) R) X.xe { s1 with heap := s1.heap.push { cls := .type "dict_items", data := .fields #[.ref d] } } := 
    wpAny_pyIter_items_raw (d := d) ⟨_, Heap.get?_push_size _ rfl, rfl, rfl⟩ (raw.at fun o q => Heap.get?_push_of_some _ q) (pi_one (tk := s1.toks) I2 _ (turn_nitems _ hdt hsz) ⟨.none, .none, Heap.get?_push_size _ rfl⟩ q)
  show wpAny _ _ (callWith cpos (.builtin "dict.items") [.ref d] [] []) _ X.xe s1
  exact method_meetsIn F.slot_dict_items F.entry_dict_items rfl (PySem.evalArgs_none ⟨rfl, raw.typeIs, F.args_dict_items_1 _, _, meets_dict_items_raw d hs, ⟨es, ep, raw⟩, fin⟩)
end
end K1D

set_option Elab.async false
set_option linter.all false
set_option maxRecDepth 100000
set_option maxHeartbeats 4000000
/-! {k: v for .. in ..} where the keys are nested. Speaks of no program. -/
namespace K1D
open PySem PySem.Spec PyProof.Rows L2
/-- what one pair does to the new dict at D -/
def PutAt (K : PySem.W.Frag) (w : World) (D : Addr) (y z : V) (G : Hp) (go : Hp → Prop) : Prop :=
  ∃ kvs k b, y = .ref b ∧ G D = some (dN w D kvs) ∧ KeysN K G kvs ∧ kvs.length < sizeLine ∧ KeyV K G k (.ref b) ∧ k.depth ≤ 8 ∧ go (upd G D (dN w D (putN kvs k b z)))
/-- {k: v for target in iter if ..}: D the new dict -/
def tNDc (K : PySem.W.Frag) (w : World) (wi : TI) (g : TG) (tt : TT) (tk tv : TE) (vs : List Nat) : TE := fun σ H Q => wi σ H fun J G => ∀ D, G D = none →
  ∃ W : Nat → Nat → Hp → Prop, (∃ m, W 0 m (upd G D (dN w D []))) ∧ ∀ i m F, W i m F →
    (J.stop i F ∧ Q (.ref D) F) ∨
    (J.go i F ∧ ∃ Nx : Hp → Prop, (∀ F', Nx F' → ∃ m', m' < m ∧ W (i + 1) m' F') ∧ ∀ x F', J.yld i F x F' → g x (wipe σ vs) F' fun σ2 F2 => wipe σ2 vs = wipe σ vs ∧ tt σ2 F2 fun b F3 =>
      if b = true then tk σ2 F3 fun y F4 => tv σ2 F4 fun z F5 => PutAt K w D y z F5 Nx else Nx F3)
section
variable {X : Cx}
theorem ndc_core {pn : List (Addr × Obj)} {s : Shared} {τ : L2.St} {H : Hp} {Q : VK} {kx vx tg iter : Expr} {ifs : List Expr} {scope : Scope} {own : List (Str × Nat)} {pos pos' : Pos} {wi : TI} {g : TG} {tt : TT} {tk tv : TE} {use : Option (Value → Sem Unit)} {Qf : Value → Shared → Prop}
    (hu : X.A.units + 8 < cLine) (hc : X.calm = true) (hN : X.N.Nodup) (I : Inv X pn τ H s) (hi : PI X tg iter wi) (ok : BlkOk X.N X.env.scope scope own)
    (hg : ∀ (s : Shared) (H : Hp) (C : Addr) (cl : List (Str × Addr)) (fp : List Addr), PG (X.blk s H scope (compEnvC scope cl C X.env) fp) tg g)
    (ht : ∀ (s : Shared) (H : Hp) (C : Addr) (cl : List (Str × Addr)) (fp : List Addr), PTs (X.blk s H scope (compEnvC scope cl C X.env) fp) ifs tt)
    (hk : ∀ (s : Shared) (H : Hp) (C : Addr) (cl : List (Str × Addr)) (fp : List Addr), PE (X.blk s H scope (compEnvC scope cl C X.env) fp) kx tk)
    (hv : ∀ (s : Shared) (H : Hp) (C : Addr) (cl : List (Str × Addr)) (fp : List Addr), PE (X.blk s H scope (compEnvC scope cl C X.env) fp) vx tv)
    (hs : ∀ x, foldedSetIterable iter X.env x = pure x) (h : tNDc X.K X.w wi g tt tk tv (own.map (·.2)) τ H Q)
    (back : ∀ D C s' m G, Inv X pn τ G s' → Q (.ref D) G → s'.heap.Ns C m → FpOk X pn G C → compPost (model X.prog X.w) X.A X.xe use Qf (.ref D) C (.ok .next) s') :
    wpAny (model X.prog X.w) X.A (comprehension (.DictComp kx vx [⟨tg, iter, ifs, 0⟩] scope pos) scope X.env pos' newDict false (eval iter X.env) use) Qf X.xe s := by
  have free : ∀ y ∈ scope.names, y.2 = .free → ∃ c, X.env.cells.lookup y.1 = some c := fun y hy e => (ok.free y hy e).elim (fun k => I.ok.has _ (.inl k)) fun k => I.ok.has _ (.inr k)
  refine wpAny_comprehension_free (use := use) rfl hs (closure_ok free) ok.kind (fun y hy e => by rw [ok.uniq y hy, e]) ?_
  refine thn (hi.run pn s τ H _ I h) fun xv s1 got => thn got fun itv s2 z => ?_
  obtain ⟨it, fp, tn, J, G, rfl, I2, T, sa, fa, turn0⟩ := z
  refine wpAny_newObj_type (newEnv_comp ?_)
  generalize hD : s2.heap.objs.size = D
  obtain ⟨W, ⟨m0, w0⟩, turn⟩ := turn0 D (I2.hok.fresh (Nat.le_of_eq hD))
  generalize e3 : ({ s2 with heap := s2.heap.push { cls := .type "dict", data := .dict #[] } } : Shared) = s3
  have p3 : s3.heap = s2.heap.push { cls := .type "dict", data := .dict #[] } := by rw [← e3]
  have I3 : Inv X pn τ (upd G D (dN X.w D [])) s3 := by
    rw [← e3]
    refine I2.laid (t' := s2.toks) (fun b o q => Heap.get?_push_of_some _ q) (Nat.le_of_eq hD) ?_
    rw [← hD]
    exact dn_empty s2.heap I2.big
  have low : ∀ b ∈ fp, b < s2.heap.objs.size := fun b hb => let ⟨o, q, _⟩ := T.obj _ _ sa b hb; Heap.lt_size q
  have fb : ∀ b ∈ fp, FpOk X pn (upd G D (dN X.w D [])) b ∧ b < s3.heap.objs.size := fun b hb => by
    have lt := low b hb
    refine ⟨⟨?_, (fa b hb).2⟩, by rw [p3, Heap.size_push]; exact Nat.lt_succ_of_lt lt⟩
    rw [upd_ne (by rw [← hD]; exact Nat.ne_of_lt lt)]
    exact (fa b hb).1
  have sb : tn 0 s3.heap := T.keep _ _ _ sa fun b _ o q => by rw [p3]; exact Heap.get?_push_of_some _ q
  have I4 := block_start I3 ok hN fb
  -- the block's own context
  let cl := cellsFrom (s3.heap.objs.size + 1) scope.names (cloFrom X.env.cells scope.names [])
  have rg := hg s3 (upd G D (dN X.w D [])) s3.heap.objs.size cl fp
  have rt := ht s3 (upd G D (dN X.w D [])) s3.heap.objs.size cl fp
  have rk := hk s3 (upd G D (dN X.w D [])) s3.heap.objs.size cl fp
  have rv := hv s3 (upd G D (dN X.w D [])) s3.heap.objs.size cl fp
  show codeAny _ _ (.compStart (.DictComp kx vx [⟨tg, iter, ifs, 0⟩] scope pos) 0 (.ref it) (.ref D) (compEnvC scope cl s3.heap.objs.size X.env)) (compPost (model X.prog X.w) X.A X.xe use Qf (.ref D) s3.heap.objs.size) { s3 with heap := pushCells (s3.heap.push { cls := .type "dict", data := .dict #[] }) scope.names }
  generalize hce : compEnvC scope cl s3.heap.objs.size X.env = ce at I4 rg rt rk rv ⊢
  have cL : ce.locals = s3.heap.objs.size := by subst hce; rfl
  have nfp : ∀ b ∈ fp, (upd G D (dN X.w D [])) b = none := fun b hb => (fb b hb).1.1
  generalize hG3 : upd G D (dN X.w D []) = G3 at I3 I4 rg rt rk rv w0 nfp fb
  generalize e4 : ({ s3 with heap := pushCells (s3.heap.push { cls := .type "dict", data := .dict #[] }) scope.names } : Shared) = s4 at I4 ⊢
  have sc : tn 0 s4.heap := T.keep _ _ _ sb fun b _ o q => by rw [← e4]; exact pushCells_keeps _ _ _ _ (Heap.get?_push_of_some _ q)
  have apart : ∀ {τ' : L2.St} {F : Hp} {s' : Shared}, Inv (X.blk s3 G3 scope ce fp) [] τ' F s' → (∀ b ∈ fp, F b = none) → ∀ b ∈ fp, FpOk (X.blk s3 G3 scope ce fp) [] F b := fun {τ' F s'} J' hn b hb =>
    ⟨hn b hb, (J'.ok.exf b hb).1, J'.ok.exfs b hb, .inl hb, fun x c q => (J'.ok.exf b hb).2 x c q, fun p hp => absurd (show p ∈ ([] : List (Addr × Obj)) ++ [] from hp) (by simp)⟩
  refine codeAny_compStart_dict ?loop (T.self X.A 0 _ _ _ sc ?loop)
  refine compLoop_anyD (fun n s' => ∃ i F, Inv (X.blk s3 G3 scope ce fp) [] (wipe τ (own.map (·.2))) F s' ∧ tn i s'.heap ∧ (∀ b ∈ fp, F b = none) ∧ W i n F) ?_ m0 ⟨0, G3, I4, sc, nfp, w0⟩
  rintro n s5 ⟨i, F5, I5, s5a, n5, w5⟩
  rcases turn i n F5 w5 with ⟨halt, fin0⟩ | ⟨go, Nx, less, step⟩
  · -- no further one: back in the def
    refine thnF (T.done (X.blk s3 G3 scope ce fp) rfl rfl rfl hc i [] s5 _ F5 (fun _ _ => False) I5 (apart I5 n5) s5a halt) fun r s6 ⟨hr, I6⟩ => ?_
    subst hr
    have I7 : Inv X pn τ F5 s6 := I3.call' (ch := fp) I6.os I6.base I6.hok I6.bare fun b hb => let ⟨_, q1, q2, q3, q4, q5⟩ := (fb b hb).1; ⟨q3, q1, q4, q5⟩
    have nC : F5 s3.heap.objs.size = none := by
      rw [← cL]
      exact I6.free
    obtain ⟨m, hn, _⟩ := I6.loc
    have hn' : s6.heap.Ns ce.locals m := hn
    rw [cL] at hn'
    exact back D s3.heap.objs.size s6 m F5 I7 fin0 hn' (I3.fpOk (Nat.le_refl _) nC)
  · refine thnF (T.item (X.blk s3 G3 scope ce fp) rfl rfl rfl hc i [] s5 _ F5 (fun _ _ => False) I5 (apart I5 n5) s5a go) fun r s6 ⟨u, hr, h6⟩ => ?_
    subst hr
    refine thnF h6 fun _ s7 ⟨x, F7, I7, r7, y7, s7a, n7⟩ => ?_
    have I7' := I7.pinned (apart I7 n7) (T.obj _ _ s7a)
    refine thnF (rg.run _ s7 _ F7 x u _ I7' r7 (step x F7 y7)) fun _ s8 ⟨τ8, F8, I8, hw8, q8⟩ => ?_
    refine thnF (rt.run _ s8 τ8 F8 _ I8 q8) fun b s9 ⟨F9, I9, q9⟩ => ?_
    have fin : ∀ {s' : Shared} {F' : Hp}, Inv (X.blk s3 G3 scope ce fp) ([] ++ pinsAt fp s7.heap) τ8 F' s' → Nx F' → ∃ m, m < n ∧ ∃ i F', Inv (X.blk s3 G3 scope ce fp) [] (wipe τ (own.map (·.2))) F' s' ∧ tn i s'.heap ∧ (∀ b ∈ fp, F' b = none) ∧ W i m F' := fun {s' F'} J' nx => by
      obtain ⟨m', lt, w'⟩ := less F' nx
      have pin' : ∀ b ∈ fp, ∀ o, s7.heap.get? b = some o → s'.heap.get? b = some o ∧ F' b = none := fun b hb o q =>
        let z := J'.pin (b, o) (List.mem_append_right _ (List.mem_append_right _ (mem_pinsAt hb q)))
        ⟨z.1, z.2.1⟩
      have hl : (wipe τ (own.map (·.2))).length = τ8.length := by rw [← hw8, wipe_length]
      refine ⟨m', lt, i + 1, F', (J'.unpinned (pins := [])).weak hl (fun j v q => ?_), T.keep _ _ _ s7a fun b hb o q => (pin' b hb o q).1, fun b hb => ?_, w'⟩
      · rw [← hw8] at q
        exact (wipe_some q).1
      · obtain ⟨o, q, _⟩ := T.obj _ _ s7a b hb
        exact (pin' b hb o q).2
    cases b with
    | false =>
      simp only [Bool.false_eq_true, if_false] at q9 ⊢
      exact fin I9 q9
    | true =>
      simp only [if_true] at q9 ⊢
      refine thnF (rk.run _ s9 τ8 F9 _ I9 q9) fun kw s10 ⟨y, F10, I10, r10, q10⟩ => ?_
      refine thnF (rv.run _ s10 τ8 F10 _ I10 q10) fun vw s11 ⟨z, F11, I11, r11, kvs, k, p, ey, hat, ks, lt, key, dep, nx⟩ => ?_
      subst ey
      obtain rfl : kw = Value.ref p := r10
      exact n_dictSet (X := X.blk s3 G3 scope ce fp) hu I11 hat ks lt key dep r11 fun s12 I12 => fin I12 nx
theorem pe_ndc {kx vx tg iter : Expr} {ifs : List Expr} {scope : Scope} {own : List (Str × Nat)} {pos : Pos} {wi : TI} {g : TG} {tt : TT} {tk tv : TE} (hu : X.A.units + 8 < cLine) (hc : X.calm = true) (hN : X.N.Nodup) (hi : PI X tg iter wi) (ok : BlkOk X.N X.env.scope scope own)
    (hg : ∀ (s : Shared) (H : Hp) (C : Addr) (cl : List (Str × Addr)) (fp : List Addr), PG (X.blk s H scope (compEnvC scope cl C X.env) fp) tg g)
    (ht : ∀ (s : Shared) (H : Hp) (C : Addr) (cl : List (Str × Addr)) (fp : List Addr), PTs (X.blk s H scope (compEnvC scope cl C X.env) fp) ifs tt)
    (hk : ∀ (s : Shared) (H : Hp) (C : Addr) (cl : List (Str × Addr)) (fp : List Addr), PE (X.blk s H scope (compEnvC scope cl C X.env) fp) kx tk)
    (hv : ∀ (s : Shared) (H : Hp) (C : Addr) (cl : List (Str × Addr)) (fp : List Addr), PE (X.blk s H scope (compEnvC scope cl C X.env) fp) vx tv) (hs : ∀ x, foldedSetIterable iter X.env x = pure x := by intro _; rfl) :
    PE X (.DictComp kx vx [⟨tg, iter, ifs, 0⟩] scope pos) (tNDc X.K X.w wi g tt tk tv (own.map (·.2))) := ⟨fun pn s τ H Q I h => by
  rw [arm_eval_DictComp]
  refine ndc_core hu hc hN I hi ok hg ht hk hv hs h fun D C s' m G I' q hn ⟨f0, f1, f2, f3, f4, f5⟩ => ⟨m, hn, fun h2 same => ?_⟩
  exact ⟨.ref D, G, I'.turned (t' := s'.toks) (fun b o hb e => (same.2 b hb).trans e) f0 f1 f3 f4 f5, rfl, q⟩⟩

/-- name = {..} on one line, the name a local -/
theorem ps_setNdc {i : Nat} {y : Str} {py : Pos} {kx vx tg iter : Expr} {ifs : List Expr} {scope : Scope} {own : List (Str × Nat)} {pos sp : Pos} {wi : TI} {g : TG} {tt : TT} {tk tv : TE} (hu : X.A.units + 8 < cLine) (hc : X.calm = true) (hN : X.N.Nodup) (hy : X.N[i]? = some y) (loc : X.env.scope.names.lookup y = some .local)
    (sw : swapsWith (.DictComp kx vx [⟨tg, iter, ifs, 0⟩] scope pos) (some (.Name y py)) sp.line X.env = pure true) (hi : PI X tg iter wi) (ok : BlkOk X.N X.env.scope scope own)
    (hg : ∀ (s : Shared) (H : Hp) (C : Addr) (cl : List (Str × Addr)) (fp : List Addr), PG (X.blk s H scope (compEnvC scope cl C X.env) fp) tg g)
    (ht : ∀ (s : Shared) (H : Hp) (C : Addr) (cl : List (Str × Addr)) (fp : List Addr), PTs (X.blk s H scope (compEnvC scope cl C X.env) fp) ifs tt)
    (hk : ∀ (s : Shared) (H : Hp) (C : Addr) (cl : List (Str × Addr)) (fp : List Addr), PE (X.blk s H scope (compEnvC scope cl C X.env) fp) kx tk)
    (hv : ∀ (s : Shared) (H : Hp) (C : Addr) (cl : List (Str × Addr)) (fp : List Addr), PE (X.blk s H scope (compEnvC scope cl C X.env) fp) vx tv) (hs : ∀ x, foldedSetIterable iter X.env x = pure x := by intro _; rfl) :
    PS X (.Assign [.Name y py] (.DictComp kx vx [⟨tg, iter, ifs, 0⟩] scope pos) sp) (tAsg (tNDc X.K X.w wi g tt tk tv (own.map (·.2))) (gName i)) := ⟨fun pn s τ H D I h => by
  rw [exec_Assign_Name_used _ _ _ _ sw]
  refine wpAny_bind (wpAny_standAt (wpAny_bind ?_))
  have h' : tNDc X.K X.w wi g tt tk tv (own.map (·.2)) τ H (fun x G => gName i x τ G D.nx) := h
  show wpAny _ X.A (do let _ ← comprehension (.DictComp kx vx [⟨tg, iter, ifs, 0⟩] scope pos) scope X.env (firstIterPos [⟨tg, iter, ifs, 0⟩] pos) newDict false (eval iter X.env) (some (assign (.Name y py) X.env))) _ _ s
  refine wpAny_bind (thn (ndc_core (Qf := fun _ s' => SP X pn D .next s') hu hc hN I hi ok hg ht hk hv hs h' fun L C s' m G I' q hn ⟨f0, f1, f2, f3, f4, f5⟩ => ?_) fun _ s' hq => wpAny_pure (wpAny_pure hq))
  show wpAny _ _ (assign (.Name y py) X.env (.ref L)) _ _ _
  refine wpAny_assign_Name (store_ok2 (v := V.ref L) I' hN hy (.inl loc) rfl (fun s2 I2 ⟨a, same, ha⟩ => ?_) (.inr loc))
  have ne : C ≠ a := ha.elim (fun z => by rw [z]; exact f1) fun z q => f4 y a z q.symm
  exact ⟨m, hn.sameBut same ne, fun h3 sm3 => ⟨_, G, I2.turned (t' := s2.toks) (fun b o hb e => (sm3.2 b hb).trans e) f0 f1 f3 f4 f5, q⟩⟩⟩

/-! ### the loops -/
/-- a block over n things, of any iterator that knows its turns -/
theorem blk_n {J : It} {n : Nat} {G : Hp} {o : Addr → HO} {D : Addr} {Qd : Hp → Prop} {body : V → Hp → (Hp → Prop) → Prop} (Pv : Nat → Hp → Prop) (h0 : Pv 0 (upd G D (o D))) (go : ∀ i F, i < n → Pv i F → J.go i F) (halt : ∀ F, Pv n F → J.stop n F)
    (hs : ∀ i F x F', i < n → Pv i F → J.yld i F x F' → body x F' (Pv (i + 1))) (hd : ∀ F, Pv n F → Qd F) :
    ∃ W : Nat → Nat → Hp → Prop, (∃ m, W 0 m (upd G D (o D))) ∧ ∀ i m F, W i m F → (J.stop i F ∧ Qd F) ∨ (J.go i F ∧ ∃ Nx : Hp → Prop, (∀ F', Nx F' → ∃ m', m' < m ∧ W (i + 1) m' F') ∧ ∀ x F', J.yld i F x F' → body x F' Nx) := by
  refine ⟨fun i m F => m = n - i ∧ i ≤ n ∧ Pv i F, ⟨n, (Nat.sub_zero n).symm, Nat.zero_le _, h0⟩, ?_⟩
  rintro i m F ⟨rfl, hi, p⟩
  rcases Nat.lt_or_ge i n with lt | ge
  · exact .inr ⟨go i F lt p, Pv (i + 1), fun F' p' => ⟨n - (i + 1), by omega, rfl, lt, p'⟩, fun x F' y => hs i F x F' lt p y⟩
  · obtain rfl : i = n := by omega
    exact .inl ⟨halt F p, hd F p⟩
/-- a for statement over n things -/
theorem for_n {J : It} {n : Nat} {g : TG} {tb : TS} {D : Ends} {σ : L2.St} {H : Hp} (Pv : Nat → L2.St → Hp → Prop) (h0 : Pv 0 σ H) (go : ∀ i σ F, i < n → Pv i σ F → J.go i F) (halt : ∀ σ F, Pv n σ F → J.stop n F)
    (hs : ∀ i σ F x F', i < n → Pv i σ F → J.yld i F x F' → g x σ F' fun σ2 H2 => tb { D with nx := Pv (i + 1), ct := Pv (i + 1), bk := D.nx } σ2 H2) (hd : ∀ σ F, Pv n σ F → D.nx σ F) :
    ∃ W : Nat → Nat → L2.St → Hp → Prop, (∃ m, W 0 m σ H) ∧ ∀ i m σ F, W i m σ F →
      (J.stop i F ∧ D.nx σ F) ∨ (J.go i F ∧ ∃ N : L2.St → Hp → Prop, (∀ σ' F', N σ' F' → ∃ m', m' < m ∧ W (i + 1) m' σ' F') ∧ ∀ x F', J.yld i F x F' → g x σ F' fun σ2 H2 => tb { D with nx := N, ct := N, bk := D.nx } σ2 H2) := by
  refine ⟨fun i m σ F => m = n - i ∧ i ≤ n ∧ Pv i σ F, ⟨n, (Nat.sub_zero n).symm, Nat.zero_le _, h0⟩, ?_⟩
  rintro i m σ F ⟨rfl, hi, p⟩
  rcases Nat.lt_or_ge i n with lt | ge
  · exact .inr ⟨go i σ F lt p, Pv (i + 1), fun σ' F' p' => ⟨n - (i + 1), by omega, rfl, lt, p'⟩, fun x F' y => hs i σ F x F' lt p y⟩
  · obtain rfl : i = n := by omega
    exact .inl ⟨halt σ F p, hd σ F p⟩
end
end K1D

set_option Elab.async false
set_option linter.all false
set_option maxRecDepth 100000
set_option maxHeartbeats 4000000
/-! list(d) and sorted(d.items()) of a dict with nested keys. Speaks of no program. -/
namespace K1D
open PySem PySem.Spec PyProof.Rows L2
section
variable {X : Cx} {pn : List (Addr × Obj)} {σ : L2.St} {H : Hp} {s : Shared}
mutual
/-- read as data: no list on the way -/
theorem KeyV.reads (I : Inv X pn σ H s) : ∀ (k : NestedKey) (v : V) (u : Value), KeyV X.K H k v → RelV v u → Reads s.heap u k.data []
  | .none, _, _, h, r => by cases h; cases r; exact Reads.none
  | .num i, _, _, h, r => by
    cases h
    obtain ⟨t, rfl⟩ := r
    exact Reads.int i t
  | .text x, _, _, h, r => by
    cases h
    obtain ⟨t, rfl⟩ := r
    exact Reads.str x t
  | .tup ks, _, _, h, r => by
    cases h with
    | tup h1 h2 =>
      cases r
      obtain ⟨its, rv, ⟨o, ho, hc, n, hd⟩, _⟩ := I.tuple (SqT.of h1)
      exact Reads.tuple ho hc hd (KeyVs.reads I ks _ _ h2 rv)
theorem KeyVs.reads (I : Inv X pn σ H s) : ∀ (ks : List NestedKey) (vs : List V) (us : List Value), KeyVs X.K H ks vs → Vals vs us → ReadsAll s.heap us (NestedKey.datas ks) []
  | [], _, _, h, r => by cases h; cases r; exact ReadsAll.nil
  | k :: ks, _, _, h, r => by
    cases h with
    | cons h1 h2 =>
      cases r with
      | cons r1 r2 => exact ReadsAll.cons (KeyV.reads I k _ _ h1 r1) (KeyVs.reads I ks _ _ h2 r2)
end
/-! reading off a heap that keeps all objects -/
mutual
theorem Reads.kept0 {h h' : Heap} (kp : ∀ b o, h.get? b = some o → h'.get? b = some o) : ∀ (k : NestedKey) (u : Value), Reads h u k.data [] → Reads h' u k.data []
  | .none, _, r => by cases r; exact Reads.none
  | .num i, _, r => by cases r; exact Reads.int i _
  | .text x, _, r => by cases r; exact Reads.str x _
  | .tup ks, _, r => by
    have r' : Reads h _ (.tuple (NestedKey.datas ks)) [] := r
    cases r' with
    | tuple h1 h2 h3 h4 => exact Reads.tuple (kp _ _ h1) h2 h3 (ReadsAll.kept0 kp ks _ h4)
theorem ReadsAll.kept0 {h h' : Heap} (kp : ∀ b o, h.get? b = some o → h'.get? b = some o) : ∀ (ks : List NestedKey) (us : List Value), ReadsAll h us (NestedKey.datas ks) [] → ReadsAll h' us (NestedKey.datas ks) []
  | [], _, r => by
    have r' : ReadsAll h _ [] [] := r
    cases r'
    exact ReadsAll.nil
  | k :: ks, us, r => by
    have r' : ReadsAll h us (k.data :: NestedKey.datas ks) [] := r
    generalize hz : ([] : List Addr) = z at r'
    cases r' with
    | @cons v vs d ds as bs h1 h2 =>
      have e1 : as = [] := (List.append_eq_nil_iff.mp hz.symm).1
      have e2 : bs = [] := (List.append_eq_nil_iff.mp hz.symm).2
      subst e1 e2
      exact ReadsAll.cons (Reads.kept0 kp k _ h1) (ReadsAll.kept0 kp ks _ h2)
end
end
section
variable {X : Cx}
/-- list(d) -/
theorem call_list_dN (hc : X.calm = true) : CallR X (.type "list") (fun xs H Q => ∃ d kvs, xs = [V.ref d] ∧ Rd H d (dN X.w d kvs) ∧ ∀ p, H p = none → Q (.ref p) (upd H p (.lst (kvs.map fun x => V.ref x.2.1)))) := by
  intro pn s σ H xs us Q I r h
  obtain ⟨d, kvs, rfl, hd, q⟩ := h
  obtain ⟨u, rfl, rx⟩ := r.one
  cases rx
  obtain ⟨⟨z, hs, ks, rel, o, es, ep, ho, hx, hdt, he, _⟩, _⟩ := (show ObjOk X.prog X.w H s.heap d (dN X.w d kvs) from hd.ok I.hok)
  have l1 : es.toList.length = ks.length := by rw [he, List.length_map]
  rw [Array.length_toList] at l1
  have l2 : kvs.length = ks.length := Paired.length rel
  refine PySem.W.kdl_call (kdl_raw hs hx hdt) (I.ok.hd hc) ho (by omega) fun h' tk acc' c' kp e it => ?_
  have ent : ∀ (j : Nat) (en : DictEntry), es[j]? = some en → ∃ x : NE, kvs[j]? = some x ∧ en.key = Value.ref x.2.1 := by
    intro j en hj
    rw [← Array.getElem?_toList, he, List.getElem?_map] at hj
    obtain ⟨b, hb, eb⟩ := Option.map_eq_some_iff.mp hj
    have hjl : j < kvs.length := by rw [l2]; exact (List.getElem?_eq_some_iff.mp hb).1
    obtain ⟨u, hu, _⟩ := nr_get rel (List.getElem?_eq_getElem hjl)
    rw [hb] at hu
    refine ⟨_, List.getElem?_eq_getElem hjl, ?_⟩
    rw [← eb, Option.some.inj hu]
    all_goals rfl
  have ea : acc'.toList = (kvs.map fun x => x.2.1).map Value.ref := by
    have hl : acc'.toList.length = kvs.length := by rw [Array.length_toList, it.1]; omega
    apply List.ext_getElem?
    intro j
    rw [List.getElem?_map, List.getElem?_map]
    cases hj : acc'.toList[j]? with
    | none =>
      have h1 := List.getElem?_eq_none_iff.mp hj
      rw [List.getElem?_eq_none (by omega)]
      all_goals rfl
    | some v =>
      obtain ⟨en, hen, hv⟩ := it.2 j v (by rw [← Array.getElem?_toList]; exact hj)
      obtain ⟨x, hx', hk⟩ := ent j en hen
      rw [hx', hv, hk]
      all_goals rfl
  have rv : Vals ((kvs.map fun x => x.2.1).map V.ref) acc'.toList := by rw [ea]; exact vals_refs _
  have em : ((kvs.map fun x => x.2.1).map V.ref) = kvs.map fun x => V.ref x.2.1 := by rw [List.map_map]; all_goals rfl
  rw [em] at rv
  refine ⟨.ref s.heap.objs.size, _, I.laid (t' := tk) (o := .lst (kvs.map fun x => V.ref x.2.1)) kp (Nat.le_refl _) ?_, rfl, q _ (I.hok.fresh (Nat.le_refl _))⟩
  exact ⟨by rw [List.length_map]; exact z, acc'.toList, c', rv, by rw [Array.toArray_toList]; exact e⟩

/-! ### sorted(d.items()) -/
mutual
theorem key_depth : ∀ k : NestedKey, k.data.depth = k.depth
  | .none => rfl
  | .num _ => rfl
  | .text _ => rfl
  | .tup ks => by
    show PyData.depth (.tuple (NestedKey.datas ks)) = _
    simp only [PyData.depth, NestedKey.depth, keys_depth ks]
theorem keys_depth : ∀ ks : List NestedKey, PyData.depthAll (NestedKey.datas ks) = NestedKey.depthAll ks
  | [] => rfl
  | k :: ks => by
    show PyData.depthAll (k.data :: NestedKey.datas ks) = _
    simp only [PyData.depthAll, NestedKey.depthAll, key_depth k, keys_depth ks]
end
/-- the pairs of a dict whose values are ints -/
abbrev NI := NestedKey × Int
def pairK (x : NI) : NestedKey := .tup [x.1, .num x.2]
/-- d's pairs in their order, the places of the keys left out -/
def IntsN (kvs : List NE) (m : List NI) : Prop := kvs.map (fun x => (x.1, x.2.2)) = m.map fun x => (x.1, V.int x.2)
def rItemsN (w : World) : V → List V → Hp → VK → Prop := fun x xs H Q => ∃ (a : Addr) (kvs : List NE), x = .ref a ∧ xs = [] ∧ Rd H a (dN w a kvs) ∧ ∀ p, H p = none → Q (.ref p) (upd H p (DX.itemsO p a))
theorem mt_itemsN : MtR X "dict.items" (rItemsN X.w) := by
  intro pn s σ H x xs v us Q I rx rxs h
  obtain ⟨a, kvs, rfl, rfl, ha, q⟩ := h
  cases rx
  cases rxs
  obtain ⟨⟨z, hd, xs', rel, o, es, ep, ho, hx, hdat, _⟩, _⟩ := (show ObjOk X.prog X.w H s.heap a (dN X.w a kvs) from ha.ok I.hok)
  refine DT.callItems (es := es) (ep := ep) hd ⟨o, ho, hx, hdat⟩ ?_
  exact ⟨.ref s.heap.objs.size, _, I.laid (t' := s.toks) (fun b u e => Heap.get?_push_of_some _ e) (Nat.le_refl _) (DX.itemsO_ok (Heap.get?_push_size _ rfl)), rfl, q _ (I.hok.fresh (Nat.le_refl _))⟩
/-- sorted(d.items()), the values ints, the keys of one kind: the pairs, rising -/
def rSortN (K : PySem.W.Frag) (w : World) : List V → Hp → VK → Prop := fun vs H Q => ∃ (p a : Addr) (kvs : List NE) (m : List NI), vs = [.ref p] ∧ H p = some (DX.itemsO p a) ∧ Rd H a (dN w a kvs) ∧ KeysN K H kvs ∧ IntsN kvs m ∧
  (∀ x ∈ m, ∀ y ∈ m, PySem.W.alike x.1.data y.1.data = true) ∧
  ∀ (H' : Hp) (l : Addr) (xs : List V), (∀ b o, H b = some o → H' b = some o) → H' l = some (.lst xs) → KeyVs K H' ((m.mergeSort (PySem.W.dataLe false fun x => (pairK x).data)).map pairK) xs → Q (.ref l) H'
theorem ints_len {kvs : List NE} {m : List NI} (h : IntsN kvs m) : kvs.length = m.length := by
  have := congrArg List.length h
  simpa using this
theorem ints_at {kvs : List NE} {m : List NI} (h : IntsN kvs m) {j : Nat} {x : NE} (e : kvs[j]? = some x) : ∃ c, m[j]? = some (x.1, c) ∧ x.2.2 = V.int c := by
  have q : (kvs.map fun x => (x.1, x.2.2))[j]? = (m.map fun x => (x.1, V.int x.2))[j]? := by rw [h]
  rw [List.getElem?_map, List.getElem?_map, e] at q
  cases hm : m[j]? with
  | none => rw [hm] at q; cases q
  | some y =>
    rw [hm] at q
    have q2 : (x.1, x.2.2) = (y.1, V.int y.2) := Option.some.inj q
    obtain ⟨q3, q4⟩ := Prod.mk.inj q2
    exact ⟨y.2, by rw [q3], q4⟩
theorem each_of {α β : Type} {R : α → β → Prop} : ∀ {as : List α} {bs : List β}, as.length = bs.length → (∀ (j : Nat) (a : α) (b : β), as[j]? = some a → bs[j]? = some b → R a b) → PySem.W.EachIs R as bs
  | [], [], _, _ => .nil
  | a :: as, b :: bs, hl, h => .cons (h 0 a b rfl rfl) (each_of (by simpa using hl) fun j x y hx hy => h (j + 1) x y hx hy)
  | [], _ :: _, hl, _ => by simp at hl
  | _ :: _, [], hl, _ => by simp at hl
/-- the places of the items -/
theorem each_addr {β : Type} {T : Addr → β → Prop} : ∀ {vs : List Value} {bs : List β}, PySem.W.EachIs (fun v y => ∃ b : Addr, v = .ref b ∧ T b y) vs bs → ∃ cs : List Addr, vs = cs.map Value.ref ∧ PySem.W.EachIs T cs bs
  | _, _, .nil => ⟨[], rfl, .nil⟩
  | _, _, .cons ⟨c, e, hc⟩ t => by
    obtain ⟨cs, ecs, ht⟩ := each_addr t
    exact ⟨c :: cs, by rw [e, ecs]; rfl, .cons hc ht⟩
theorem each_keys {K : PySem.W.Frag} {H : Hp} {β : Type} (f : β → NestedKey) : ∀ {cs : List Addr} {bs : List β}, PySem.W.EachIs (fun c y => KeyV K H (f y) (.ref c)) cs bs → KeyVs K H (bs.map f) (cs.map V.ref)
  | _, _, .nil => .nil
  | _, _, .cons h t => .cons h (each_keys f t)
end
section
variable {X : Cx}
theorem cr_sortN (hc : X.calm = true) (hu : X.A.units + 64 < cLine) : CallR X (.builtin "sorted") (rSortN X.K X.w) := by
  intro pn s σ H xs us Q I r h
  obtain ⟨p, a, kvs, m, rfl, hp, ha, ks, hm, al, q⟩ := h
  obtain rfl := Vals.ref1 r
  have view : s.heap.IsItemsView p a := (show ObjOk X.prog X.w H s.heap p (DX.itemsO p a) from I.hok p _ hp).1
  obtain ⟨⟨z, hd, xs', rel, o, es, ep, ho, hx, hdat, he, _⟩, _⟩ := (show ObjOk X.prog X.w H s.heap a (dN X.w a kvs) from ha.ok I.hok)
  have l1 : es.toList.length = xs'.length := by rw [he, List.length_map]
  rw [Array.length_toList] at l1
  have l2 : kvs.length = xs'.length := Paired.length rel
  have l3 := ints_len hm
  refine DT.sortedI (es := es) (ep := ep) (I.ok.hd hc) view ⟨o, ho, hx, hdat⟩ (by omega) fun h' tk as hk hlt hl hG => ?_
  have nd : as.Nodup := List.Pairwise.imp (fun h => Nat.ne_of_lt h) hG.rise
  have lam : as.length = m.length := by omega
  -- each pair that was made
  have pr : ∀ (j : Nat) (b : Addr) (y : NI), as[j]? = some b → m[j]? = some y → ∃ (kq : Addr) (t : Tok), KeyV X.K H y.1 (.ref kq) ∧ y.1.depth ≤ 8 ∧ h'.get? b = some { cls := .type "tuple", data := .seq #[Value.ref kq, Value.int y.2 t] } := by
    intro j b y hj hy
    obtain ⟨en, hen, hg⟩ := hG.pairs j b hj
    have hjl : j < kvs.length := by rw [l3]; exact (List.getElem?_eq_some_iff.mp hy).1
    have hkv : kvs[j]? = some kvs[j] := List.getElem?_eq_getElem hjl
    obtain ⟨u, hxu, ru⟩ := nr_get rel hkv
    obtain ⟨c, hc', hv⟩ := ints_at hm hkv
    rw [hy] at hc'
    have ey : y = (kvs[j].1, c) := Option.some.inj hc'
    rw [hv] at ru
    obtain ⟨t, rfl⟩ := ru
    rw [← Array.getElem?_toList, he, List.getElem?_map, hxu] at hen
    have een : entN X.w (kvs[j].1, kvs[j].2.1, Value.int c t) = en := Option.some.inj hen
    obtain ⟨k1, k2⟩ := ks _ (List.getElem_mem hjl)
    refine ⟨kvs[j].2.1, t, by rw [ey]; exact k1, by rw [ey]; exact k2, ?_⟩
    rw [hg, ← een, ey]
    all_goals rfl
  have hob : (h'.push { cls := .type "list", data := .seq (as.map Value.ref).toArray }).get? h'.objs.size = some (seqObj "list" (as.map Value.ref).toArray 0) := Heap.get?_push_size _ rfl
  have ka : ∀ b o, h'.get? b = some o → (h'.push { cls := .type "list", data := .seq (as.map Value.ref).toArray }).get? b = some o := fun b o e => Heap.get?_push_of_some _ e
  have ne0 : ∀ b o, h'.get? b = some o → b ≠ h'.objs.size := fun b o e => Nat.ne_of_lt (Heap.lt_size e)
  generalize hh2 : h'.push { cls := .type "list", data := .seq (as.map Value.ref).toArray } = h2 at hob ka ⊢
  have kb : ∀ b o, s.heap.get? b = some o → h2.get? b = some o := fun b o e => ka b o (hk b o e)
  -- what an item stands for
  let Rt : Value → NI → Prop := fun v y => ∃ (j : Nat) (b : Addr), v = .ref b ∧ as[j]? = some b ∧ m[j]? = some y
  have e1 : PySem.W.EachIs Rt (as.map Value.ref) m := each_of (by rw [List.length_map]; exact lam) fun j v y hv hy => by
    rw [List.getElem?_map] at hv
    obtain ⟨b, hb, rfl⟩ := Option.map_eq_some_iff.mp hv
    exact ⟨j, b, rfl, hb, hy⟩
  have e2 : PySem.W.EachIs (fun v y => ∃ as', Reads h2 v (pairK y).data as' ∧ h'.objs.size ∉ as') (as.map Value.ref) m := e1.mono fun v y ⟨j, b, ev, hb, hy⟩ => by
    obtain ⟨kq, t, k1, k2, hg⟩ := pr j b y hb hy
    subst ev
    have r1 : Reads h2 (.ref kq) y.1.data [] := Reads.kept0 kb y.1 _ (k1.reads I _ _ _ rfl)
    have r2 : ReadsAll h2 [Value.ref kq, Value.int y.2 t] [y.1.data, .int y.2] [] := ReadsAll.cons r1 (ReadsAll.cons (Reads.int y.2 t) ReadsAll.nil)
    exact ⟨[], Reads.tuple (ka _ _ hg) rfl rfl r2, by simp⟩
  have hal : PySem.W.AllAlike (m.map fun x => (pairK x).data) := by
    intro d1 h1 d2 h2'
    obtain ⟨y1, m1, rfl⟩ := List.mem_map.mp h1
    obtain ⟨y2, m2, rfl⟩ := List.mem_map.mp h2'
    show PySem.W.alike (.tuple [y1.1.data, .int y1.2]) (.tuple [y2.1.data, .int y2.2]) = true
    simp only [PySem.W.alike, PySem.W.alikeAll, al y1 m1 y2 m2, Bool.and_self]
  have dep : ∀ y ∈ m, (pairK y).data.depth ≤ 9 := by
    intro y hy
    obtain ⟨j, hj⟩ := List.mem_iff_getElem?.mp hy
    have hjl : j < as.length := by rw [lam]; exact (List.getElem?_eq_some_iff.mp hj).1
    obtain ⟨_, _, _, k2, _⟩ := pr j _ y (List.getElem?_eq_getElem hjl) hj
    have e : ∀ k : NestedKey, k.data.depth = k.depth := key_depth
    show (PyData.tuple [y.1.data, .int y.2]).depth ≤ 9
    simp only [PyData.depth, PyData.depthAll, e]
    omega
  refine PySem.W.list_sort_data (s := { s with heap := h2, toks := tk }) hob e1 e2 hal (PySem.W.Sortable.tuples fun y => ⟨_, _, rfl⟩) (by omega) (fun y hy => ?_) fun out ol oe => ?_
  · have := dep y hy
    rw [Around.in1_units]
    omega
  · show EP X pn σ Q (.ref h'.objs.size) { s with heap := sortedHeap h2 h'.objs.size (as.map Value.ref) out.toArray, toks := tk }
    have kF : ∀ b o, b ≠ h'.objs.size → h2.get? b = some o → (sortedHeap h2 h'.objs.size (as.map Value.ref) out.toArray).get? b = some o := fun b o hb e => (PyProof.Rows.sortedHeap_old hb (Heap.lt_size e)).trans e
    have kS : ∀ b o, s.heap.get? b = some o → (sortedHeap h2 h'.objs.size (as.map Value.ref) out.toArray).get? b = some o := fun b o e => kF b o (ne0 _ _ (hk b o e)) (kb b o e)
    obtain ⟨eF, heF⟩ := PyProof.Rows.sortedHeap_at (vs := as.map Value.ref) (out := out.toArray) hob
    generalize hF : sortedHeap h2 h'.objs.size (as.map Value.ref) out.toArray = hf at kF kS heF ⊢
    have I1 : Inv X pn σ H { s with heap := hf, toks := tk } := I.kept (t' := tk) kS
    have hn0 : H h'.objs.size = none := I.hok.fresh (Nat.le_of_lt hlt)
    obtain ⟨cs, ecs, ecm⟩ := each_addr (T := fun b y => ∃ j : Nat, as[j]? = some b ∧ m[j]? = some y) (oe.mono fun v y ⟨j, b, ev, hb, hy⟩ => ⟨b, ev, j, hb, hy⟩)
    have lcs : cs.length = m.length := by rw [ecm.length, List.length_mergeSort]
    have I2 : Inv X pn σ (upd H h'.objs.size (.lst (cs.map V.ref))) { s with heap := hf, toks := tk } :=
      I1.take (h' := hf) (t' := tk) (fun b ob _ e => e) (I.fpOk (Nat.le_of_lt hlt) hn0) ⟨by rw [List.length_map]; omega, out, eF, by rw [ecs]; exact vals_refs _, heF⟩
    obtain ⟨H2, I3, g, qt⟩ := DX.takeT (P := fun b vs => ∃ (j : Nat) (y : NI) (kq : Addr), as[j]? = some b ∧ m[j]? = some y ∧ vs = [.ref kq, .int y.2] ∧ KeyV X.K H y.1 (.ref kq)) I as _ I2 nd fun b hb => by
      obtain ⟨j, hj⟩ := List.mem_iff_getElem?.mp hb
      have hjl : j < m.length := by rw [← lam]; exact (List.getElem?_eq_some_iff.mp hj).1
      have hy : m[j]? = some m[j] := List.getElem?_eq_getElem hjl
      obtain ⟨kq, t, k1, _, hg⟩ := pr j b _ hj hy
      have hbl : s.heap.objs.size ≤ b := Nat.le_of_lt (hG.above b hb)
      refine ⟨hbl, ?_, [.ref kq, .int m[j].2], ⟨j, m[j], kq, hj, hy, rfl, k1⟩, fun H3 => ⟨(by rw [sizeLine_eq]; show 2 ≤ 16777216; omega), [Value.ref kq, Value.int m[j].2 t], .cons rfl (.cons ⟨t, rfl⟩ .nil), ⟨_, kF _ _ (ne0 _ _ hg) (ka _ _ hg), rfl, 0, rfl⟩⟩⟩
      rw [upd_ne (ne0 _ _ hg)]
      exact I.hok.fresh hbl
    have gr : ∀ b o, H b = some o → H2 b = some o := fun b o e => g b o (by rw [upd_ne (ne_of_none e hn0)]; exact e)
    refine ⟨.ref h'.objs.size, H2, I3, rfl, q H2 h'.objs.size (cs.map V.ref) gr (g _ _ upd_same) (each_keys pairK (ecm.mono fun b y ⟨j, hb, hy⟩ => ?_))⟩
    obtain ⟨vs, ⟨j', y', kq, j1, j2, ev, k1⟩, hH⟩ := qt b (List.mem_of_getElem? hb)
    have eij : j = j' := (List.getElem?_inj (List.getElem?_eq_some_iff.mp hb).1 nd).mp (hb.trans j1.symm)
    subst eij
    have ee : y' = y := Option.some.inj (j2.symm.trans hy)
    rw [ee] at ev k1
    rw [ev] at hH
    exact .tup hH (.cons (k1.up (Tups.ext gr) _ _) (.cons (.int y.2) .nil))
end
/-- d.items(), a view -/
def tNItems (w : World) (td : TE) : TE := fun σ H Q => td σ H fun x G => ∃ (d : Addr) (kvs : List NE), x = .ref d ∧ Rd G d (dN w d kvs) ∧ ∀ p, G p = none → Q (.ref p) (upd G p (DX.itemsO p d))
theorem pe_nitemsV {X : Cx} {e : Expr} {td : TE} {ap cp : Pos} (he : PE X e td) (hbase : attributeBase e "items" X.env (eval e X.env) = eval e X.env := by rfl) (hline : (ap.endLine == cp.line) = true := by rfl) :
    PE X (.Call (.Attribute e "items" ap) [] [] cp) (tNItems X.w td) := ⟨fun pn s τ H Q I h => by
  refine wpAny_Call_method (T := "dict") (id := "dict.items") hbase rfl hline F.plainAttrs_dict F.slot_dict_items F.type_dict_items (thn (he.run pn s τ H _ I h) fun u s1 ⟨x, G, I1, rx, d, kvs, ex, hd, q⟩ => ?_)
  subst ex
  obtain rfl : u = Value.ref d := rx
  obtain ⟨⟨z, hs, xs', rel, o, es, ep, ho, hx, hdat, _⟩, _⟩ := (show ObjOk X.prog X.w G s1.heap d (dN X.w d kvs) from hd.ok I1.hok)
  have raw : s1.heap.DictRaw d es ep := ⟨o, ho, hx, hdat⟩
  refine ⟨raw.typeIs, fun b q => ?_, ?_⟩
  · cases q
    exact ⟨o, ho, hx.2.1⟩
  show wpAny _ _ (callWith cp (.builtin "dict.items") [.ref d] [] []) _ X.xe s1
  refine method_meetsIn F.slot_dict_items F.entry_dict_items rfl (PySem.evalArgs_none ⟨rfl, raw.typeIs, F.args_dict_items_1 _, _, meets_dict_items_raw d hs, ⟨es, ep, raw⟩, ?_⟩)
  exact ⟨.ref s1.heap.objs.size, _, I1.laid (t' := s1.toks) (fun b u e => Heap.get?_push_of_some _ e) (Nat.le_refl _) (DX.itemsO_ok (Heap.get?_push_size _ rfl)), rfl, q _ (I1.hok.fresh (Nat.le_refl _))⟩⟩
end K1D

set_option Elab.async false
set_option linter.all false
set_option maxRecDepth 100000
set_option maxHeartbeats 4000000
/-! Dicts of nested keys whose values are ints, and lists of such pairs. Speaks of no program. -/
namespace K1D
open PySem PySem.Spec PyProof.Rows L2
def valI (m : List NI) (k : NestedKey) : Option Int := (m.find? fun x => decide (x.1 = k)).map (·.2)
def putI (m : List NI) (k : NestedKey) (c : Int) : List NI := if (valI m k).isSome then m.map fun x => if x.1 = k then (x.1, c) else x else m ++ [(k, c)]
def dropI (m : List NI) (k : NestedKey) : List NI := m.filter fun x => decide (x.1 ≠ k)
def keysI (m : List NI) : List NestedKey := m.map (·.1)
theorem ints_nil {m : List NI} (h : IntsN [] m) : m = [] := by
  cases m with
  | nil => rfl
  | cons x r => cases h
theorem ints_cons {x : NE} {kvs : List NE} {m : List NI} (h : IntsN (x :: kvs) m) : ∃ c r, m = (x.1, c) :: r ∧ x.2.2 = V.int c ∧ IntsN kvs r := by
  cases m with
  | nil => cases h
  | cons y r =>
    have h' : (x.1, x.2.2) :: kvs.map (fun x => (x.1, x.2.2)) = (y.1, V.int y.2) :: r.map fun x => (x.1, V.int x.2) := h
    injection h' with h1 h2
    obtain ⟨h3, h4⟩ := Prod.mk.inj h1
    exact ⟨y.2, r, by rw [h3], h4, h2⟩
theorem ints_mk {x : NE} {kvs : List NE} {c : Int} {m : List NI} (e : x.2.2 = V.int c) (h : IntsN kvs m) : IntsN (x :: kvs) ((x.1, c) :: m) := by
  show (x.1, x.2.2) :: kvs.map (fun x => (x.1, x.2.2)) = (x.1, V.int c) :: m.map fun x => (x.1, V.int x.2)
  rw [e, show kvs.map (fun x => (x.1, x.2.2)) = m.map fun x => (x.1, V.int x.2) from h]
theorem ints_val : ∀ {kvs : List NE} {m : List NI}, IntsN kvs m → ∀ k, valN kvs k = (valI m k).map V.int
  | [], m, h, k => by rw [ints_nil h]; rfl
  | x :: kvs, m, h, k => by
    obtain ⟨c, r, rfl, e, t⟩ := ints_cons h
    have ih := ints_val t k
    unfold valN valI at *
    rw [List.find?_cons, List.find?_cons]
    by_cases z : x.1 = k
    · rw [decide_eq_true z]
      simp [e]
    · rw [decide_eq_false z]
      exact ih
theorem ints_repl (k : NestedKey) (c : Int) : ∀ {kvs : List NE} {m : List NI}, IntsN kvs m → IntsN (kvs.map fun x => if x.1 = k then (x.1, x.2.1, V.int c) else x) (m.map fun x => if x.1 = k then (x.1, c) else x)
  | [], m, h => by rw [ints_nil h]; rfl
  | x :: kvs, m, h => by
    obtain ⟨c', r, rfl, e, t⟩ := ints_cons h
    rw [List.map_cons, List.map_cons]
    by_cases z : x.1 = k
    · rw [if_pos z, if_pos (show ((x.1, c') : NI).1 = k from z)]
      exact ints_mk (x := (x.1, x.2.1, V.int c)) rfl (ints_repl k c t)
    · rw [if_neg z, if_neg (show ¬ ((x.1, c') : NI).1 = k from z)]
      exact ints_mk e (ints_repl k c t)
theorem ints_app : ∀ {kvs ls : List NE} {m n : List NI}, IntsN kvs m → IntsN ls n → IntsN (kvs ++ ls) (m ++ n) := fun {kvs ls m n} h g => by
  show (kvs ++ ls).map _ = (m ++ n).map _
  rw [List.map_append, List.map_append]
  exact congr (congrArg _ h) g
theorem ints_put {kvs : List NE} {m : List NI} (h : IntsN kvs m) (k : NestedKey) (b : Addr) (c : Int) : IntsN (putN kvs k b (.int c)) (putI m k c) := by
  unfold putN putI
  rw [ints_val h k, Option.isSome_map]
  split
  · exact ints_repl k c h
  · exact ints_app h (ints_mk (x := (k, b, V.int c)) rfl rfl)
theorem ints_drop (k : NestedKey) : ∀ {kvs : List NE} {m : List NI}, IntsN kvs m → IntsN (dropN kvs k) (dropI m k)
  | [], m, h => by rw [ints_nil h]; rfl
  | x :: kvs, m, h => by
    obtain ⟨c, r, rfl, e, t⟩ := ints_cons h
    unfold dropN dropI
    rw [List.filter_cons, List.filter_cons]
    by_cases z : x.1 = k
    · rw [if_neg (by simp [z]), if_neg (by simp [z])]
      exact ints_drop k t
    · rw [if_pos (by simp [z]), if_pos (by simp [z])]
      exact ints_mk e (ints_drop k t)
/-! ### the lists alone -/
theorem valI_nil (k : NestedKey) : valI [] k = none := rfl
theorem valI_cons (x : NI) (m : List NI) (k : NestedKey) : valI (x :: m) k = if x.1 = k then some x.2 else valI m k := by
  unfold valI
  rw [List.find?_cons]
  by_cases z : x.1 = k
  · rw [decide_eq_true z, if_pos z]; rfl
  · rw [decide_eq_false z, if_neg z]
theorem valI_none {m : List NI} {k : NestedKey} : valI m k = none ↔ k ∉ keysI m := by
  induction m with
  | nil => simp [valI, keysI]
  | cons x m ih =>
    rw [valI_cons]
    unfold keysI at *
    rw [List.map_cons, List.mem_cons]
    by_cases z : x.1 = k
    · rw [if_pos z]; simp [z]
    · rw [if_neg z, ih]
      constructor
      · intro h q
        rcases q with q | q
        · exact z q.symm
        · exact h q
      · intro h q
        exact h (.inr q)
theorem valI_mem {m : List NI} (nd : (keysI m).Nodup) {k : NestedKey} {c : Int} : valI m k = some c ↔ (k, c) ∈ m := by
  induction m with
  | nil => simp [valI]
  | cons x m ih =>
    have nd' : x.1 ∉ keysI m ∧ (keysI m).Nodup := List.nodup_cons.mp nd
    rw [valI_cons, List.mem_cons]
    by_cases z : x.1 = k
    · rw [if_pos z]
      constructor
      · intro h
        exact .inl (Prod.ext z.symm (Option.some.inj h).symm)
      · intro h
        rcases h with h | h
        · rw [← h]
        · exact absurd (show x.1 ∈ keysI m from by rw [z]; exact List.mem_map.mpr ⟨_, h, rfl⟩) nd'.1
    · rw [if_neg z, ih nd'.2]
      constructor
      · exact .inr
      · intro h
        rcases h with h | h
        · exact absurd (by rw [← h]) z
        · exact h
theorem valI_put (m : List NI) (k : NestedKey) (c : Int) (j : NestedKey) : valI (putI m k c) j = if j = k then some c else valI m j := by
  unfold putI
  by_cases s : (valI m k).isSome = true
  · rw [if_pos s]
    have key : ∀ l : List NI, (valI l k).isSome = true ∨ j ≠ k → valI (l.map fun x => if x.1 = k then (x.1, c) else x) j = if j = k then some c else valI l j := by
      intro l
      induction l with
      | nil =>
        intro h
        rcases h with h | h
        · cases h
        · rw [if_neg h]; rfl
      | cons x l ih =>
        intro h
        rw [List.map_cons, valI_cons, valI_cons]
        by_cases z : x.1 = k
        · rw [if_pos z]
          by_cases y : j = k
          · rw [if_pos y, if_pos (by rw [z, y])]
          · rw [if_neg y, if_neg (by rw [z]; exact fun q => y q.symm), if_neg (by rw [z]; exact fun q => y q.symm), ih (.inr y), if_neg y]
        · rw [if_neg z]
          by_cases y : j = k
          · rw [if_pos y, if_neg (by rw [y]; exact z), ih (by
              rw [valI_cons, if_neg z] at h
              exact h), if_pos y]
          · rw [if_neg y]
            by_cases u : x.1 = j
            · rw [if_pos u, if_pos u]
            · rw [if_neg u, if_neg u, ih (.inr y), if_neg y]
    exact key m (.inl s)
  · rw [if_neg s]
    have sn : valI m k = none := by
      cases h : valI m k with
      | none => rfl
      | some v => rw [h] at s; exact absurd rfl s
    have key : ∀ l : List NI, valI (l ++ [(k, c)]) j = (valI l j).or (if j = k then some c else none) := by
      intro l
      induction l with
      | nil =>
        rw [List.nil_append, valI_cons]
        by_cases y : j = k
        · rw [if_pos y, if_pos (show ((k, c) : NI).1 = j from y.symm)]; rfl
        · rw [if_neg y, if_neg (show ¬ ((k, c) : NI).1 = j from fun q => y q.symm)]; rfl
      | cons x l ih =>
        rw [List.cons_append, valI_cons, valI_cons]
        by_cases u : x.1 = j
        · rw [if_pos u, if_pos u]; rfl
        · rw [if_neg u, if_neg u, ih]
    rw [key m]
    by_cases y : j = k
    · rw [if_pos y, if_pos y, y, sn]; rfl
    · rw [if_neg y, if_neg y]
      cases valI m j <;> rfl
theorem valI_drop (m : List NI) (k j : NestedKey) : valI (dropI m k) j = if j = k then none else valI m j := by
  induction m with
  | nil => rw [show dropI [] k = [] from rfl, valI_nil]; split <;> rfl
  | cons x m ih =>
    unfold dropI at *
    rw [List.filter_cons]
    by_cases z : x.1 = k
    · rw [if_neg (by simp [z]), ih, valI_cons]
      by_cases y : j = k
      · rw [if_pos y, if_pos y]
      · rw [if_neg y, if_neg y, if_neg (by rw [z]; exact fun q => y q.symm)]
    · rw [if_pos (by simp [z]), valI_cons, valI_cons, ih]
      by_cases y : j = k
      · rw [if_pos y, if_pos y, if_neg (by rw [y]; exact z)]
      · rw [if_neg y, if_neg y]
theorem keysI_put (m : List NI) (k : NestedKey) (c : Int) : keysI (putI m k c) = if (valI m k).isSome then keysI m else keysI m ++ [k] := by
  unfold putI keysI
  split
  · rw [List.map_map]
    refine List.map_congr_left fun x hx => ?_
    show (if x.1 = k then (x.1, c) else x).1 = x.1
    split <;> rfl
  · rw [List.map_append]; rfl
theorem nodup_put {m : List NI} (nd : (keysI m).Nodup) (k : NestedKey) (c : Int) : (keysI (putI m k c)).Nodup := by
  rw [keysI_put]
  split
  · exact nd
  · rename_i h
    refine List.nodup_append.mpr ⟨nd, by simp, fun a ha b hb => ?_⟩
    rw [List.mem_singleton] at hb
    subst hb
    rintro rfl
    have : valI m a = none := by
      cases q : valI m a with
      | none => rfl
      | some v => rw [q] at h; exact absurd rfl h
    exact valI_none.mp this ha
theorem nodup_drop {m : List NI} (nd : (keysI m).Nodup) (k : NestedKey) : (keysI (dropI m k)).Nodup := nd.sublist (List.filter_sublist.map _)
theorem len_put (m : List NI) (k : NestedKey) (c : Int) : (putI m k c).length ≤ m.length + 1 := by
  unfold putI
  split
  · rw [List.length_map]; omega
  · rw [List.length_append]; exact Nat.le_refl _
theorem len_drop (m : List NI) (k : NestedKey) : (dropI m k).length ≤ m.length := List.length_filter_le _ _
/-- at d a dict, its pairs m in their order -/
def DictI (K : PySem.W.Frag) (w : World) (H : Hp) (d : Addr) (m : List NI) : Prop := ∃ kvs : List NE, H d = some (dN w d kvs) ∧ KeysN K H kvs ∧ IntsN kvs m ∧ (keysI m).Nodup
theorem DictI.up {K : PySem.W.Frag} {w : World} {H H' : Hp} {d : Addr} {m : List NI} (h : DictI K w H d m) (e : ∀ a o, H a = some o → H' a = some o) : DictI K w H' d m :=
  let ⟨kvs, h1, h2, h3⟩ := h; ⟨kvs, e _ _ h1, h2.up (Tups.ext e), h3⟩
/-- keys and values of m, all keys of one kind -/
theorem keysN_mem {K : PySem.W.Frag} {H : Hp} {kvs : List NE} {m : List NI} (ks : KeysN K H kvs) (h : IntsN kvs m) {j : Nat} {y : NI} (hy : m[j]? = some y) : ∃ e, kvs[j]? = some e ∧ e.1 = y.1 ∧ e.2.2 = V.int y.2 ∧ KeyV K H y.1 (.ref e.2.1) ∧ y.1.depth ≤ 8 := by
  have hl := ints_len h
  have hj : j < kvs.length := by rw [hl]; exact (List.getElem?_eq_some_iff.mp hy).1
  have hk : kvs[j]? = some kvs[j] := List.getElem?_eq_getElem hj
  obtain ⟨c, hc, hv⟩ := ints_at h hk
  rw [hy] at hc
  have e : y = (kvs[j].1, c) := Option.some.inj hc
  obtain ⟨k1, k2⟩ := ks _ (List.getElem_mem hj)
  exact ⟨_, hk, by rw [e], by rw [e]; exact hv, by rw [e]; exact k1, by rw [e]; exact k2⟩
end K1D

set_option Elab.async false
set_option linter.all false
/-! Numbers written to a radix: digits from the lowest, split by division. Speaks of no program. -/
namespace K2P
/-- the number of these digits to the radix r, the lowest first -/
def numD (r : Nat) : List Nat → Nat
  | [] => 0
  | d :: ds => d + r * numD r ds
theorem numD_app (r : Nat) : ∀ (a b : List Nat), numD r (a ++ b) = numD r a + r ^ a.length * numD r b
  | [], b => by simp [numD]
  | d :: a, b => by
    show d + r * numD r (a ++ b) = d + r * numD r a + r ^ (a.length + 1) * numD r b
    rw [numD_app r a b, Nat.pow_succ, Nat.mul_add, Nat.add_assoc, ← Nat.mul_assoc, Nat.mul_comm r (r ^ a.length)]
theorem numD_lt {r : Nat} : ∀ {ds : List Nat}, (∀ d ∈ ds, d < r) → numD r ds < r ^ ds.length
  | [], _ => by simp [numD]
  | d :: ds, h => by
    have h1 := h d (List.mem_cons_self ..)
    have h2 := numD_lt (ds := ds) fun x hx => h x (List.mem_cons_of_mem _ hx)
    show d + r * numD r ds < r ^ (ds.length + 1)
    rw [Nat.pow_succ]
    have h3 : r * (numD r ds + 1) ≤ r * r ^ ds.length := Nat.mul_le_mul_left r h2
    rw [Nat.mul_add, Nat.mul_one] at h3
    rw [Nat.mul_comm (r ^ ds.length) r]
    omega
/-- split at k: the low digits are the rest, the high ones the quotient -/
theorem numD_mod {r : Nat} {ds : List Nat} (h : ∀ d ∈ ds, d < r) {k : Nat} (hk : k ≤ ds.length) : numD r ds % r ^ k = numD r (ds.take k) := by
  have e : numD r ds = numD r (ds.take k) + r ^ k * numD r (ds.drop k) := by
    have := numD_app r (ds.take k) (ds.drop k)
    rw [List.take_append_drop, List.length_take, Nat.min_eq_left hk] at this
    exact this
  have lt : numD r (ds.take k) < r ^ k := by
    have := numD_lt (r := r) (ds := ds.take k) fun d hd => h d (List.mem_of_mem_take hd)
    rwa [List.length_take, Nat.min_eq_left hk] at this
  rw [e, Nat.add_mul_mod_self_left, Nat.mod_eq_of_lt lt]
theorem numD_div {r : Nat} {ds : List Nat} (h : ∀ d ∈ ds, d < r) {k : Nat} (hk : k ≤ ds.length) (hr : 0 < r) : numD r ds / r ^ k = numD r (ds.drop k) := by
  have e : numD r ds = numD r (ds.take k) + r ^ k * numD r (ds.drop k) := by
    have := numD_app r (ds.take k) (ds.drop k)
    rw [List.take_append_drop, List.length_take, Nat.min_eq_left hk] at this
    exact this
  have lt : numD r (ds.take k) < r ^ k := by
    have := numD_lt (r := r) (ds := ds.take k) fun d hd => h d (List.mem_of_mem_take hd)
    rwa [List.length_take, Nat.min_eq_left hk] at this
  rw [e, Nat.add_mul_div_left _ _ (Nat.pow_pos hr), Nat.div_eq_of_lt lt, Nat.zero_add]
/-- one number, one list of digits -/
theorem numD_inj {r : Nat} : ∀ {a b : List Nat}, a.length = b.length → (∀ d ∈ a, d < r) → (∀ d ∈ b, d < r) → numD r a = numD r b → a = b
  | [], [], _, _, _, _ => rfl
  | [], _ :: _, l, _, _, _ => nomatch l
  | _ :: _, [], l, _, _, _ => nomatch l
  | x :: a, y :: b, l, ha, hb, e => by
    have hx := ha x (List.mem_cons_self ..)
    have hy := hb y (List.mem_cons_self ..)
    have e : x + r * numD r a = y + r * numD r b := e
    have e1 : x = y := by
      have := congrArg (· % r) e
      simp only [Nat.add_mul_mod_self_left] at this
      rwa [Nat.mod_eq_of_lt hx, Nat.mod_eq_of_lt hy] at this
    subst e1
    have e2 : numD r a = numD r b := Nat.eq_of_mul_eq_mul_left (Nat.lt_of_le_of_lt (Nat.zero_le _) hx) (Nat.add_left_cancel e)
    rw [numD_inj (Nat.succ.inj l) (fun d hd => ha d (List.mem_cons_of_mem _ hd)) (fun d hd => hb d (List.mem_cons_of_mem _ hd)) e2]
/-- nothing is the number 0's digits but 0 -/
theorem numD_zero {r : Nat} (hr : 0 < r) : ∀ {ds : List Nat}, numD r ds = 0 → ∀ d ∈ ds, d = 0
  | [], _, d, h => nomatch h
  | x :: ds, e, d, h => by
    have e : x + r * numD r ds = 0 := e
    have e1 : x = 0 := by omega
    have e2 : numD r ds = 0 := by
      have : r * numD r ds = 0 := by omega
      exact (Nat.mul_eq_zero.mp this).resolve_left (by omega)
    rcases List.mem_cons.mp h with h | h
    · rw [h, e1]
    · exact numD_zero hr e2 d h
/-- digit by digit a sum, where none passes the radix -/
theorem numD_add (r : Nat) : ∀ {a b : List Nat}, a.length = b.length → numD r a + numD r b = numD r (List.zipWith (· + ·) a b)
  | [], [], _ => rfl
  | [], _ :: _, l => nomatch l
  | _ :: _, [], l => nomatch l
  | x :: a, y :: b, l => by
    show x + r * numD r a + (y + r * numD r b) = (x + y) + r * numD r (List.zipWith (· + ·) a b)
    rw [← numD_add r (Nat.succ.inj l), Nat.mul_add]
    omega
end K2P

set_option Elab.async false
set_option linter.all false
/-! What a table sums up by keys: contributions, products of tables. Speaks of no program. -/
namespace K2P
variable {α β γ : Type} [DecidableEq α] [DecidableEq β] [DecidableEq γ]
/-- the sum of what stands at the key k -/
def tot : List (α × Int) → α → Int
  | [], _ => 0
  | x :: l, k => (if x.1 = k then x.2 else 0) + tot l k
theorem tot_app : ∀ (a b : List (α × Int)) (k : α), tot (a ++ b) k = tot a k + tot b k
  | [], b, k => by show tot b k = 0 + tot b k; omega
  | x :: a, b, k => by
    show _ + tot (a ++ b) k = _ + tot a k + tot b k
    rw [tot_app a b k]
    omega
theorem tot_none : ∀ {l : List (α × Int)} {k : α}, (∀ x ∈ l, x.1 ≠ k) → tot l k = 0
  | [], _, _ => rfl
  | x :: l, k, h => by
    show (if x.1 = k then x.2 else 0) + tot l k = 0
    rw [if_neg (h x (List.mem_cons_self ..)), tot_none fun y hy => h y (List.mem_cons_of_mem _ hy)]
    rfl
/-- the keys renamed one to one -/
theorem tot_ren (f : α → β) : ∀ {l : List (α × Int)} {k : α}, (∀ x ∈ l, f x.1 = f k → x.1 = k) → tot (l.map fun x => (f x.1, x.2)) (f k) = tot l k
  | [], _, _ => rfl
  | x :: l, k, h => by
    show (if f x.1 = f k then x.2 else 0) + tot (l.map fun x => (f x.1, x.2)) (f k) = (if x.1 = k then x.2 else 0) + tot l k
    rw [tot_ren f fun y hy => h y (List.mem_cons_of_mem _ hy)]
    by_cases e : x.1 = k
    · rw [if_pos e, if_pos (by rw [e])]
    · rw [if_neg e, if_neg fun q => e (h x (List.mem_cons_self ..) q)]
/-- term by term -/
def rowL (op : α → β → γ) (x : α × Int) (q : List (β × Int)) : List (γ × Int) := q.map fun y => (op x.1 y.1, x.2 * y.2)
def prodL (op : α → β → γ) (p : List (α × Int)) (q : List (β × Int)) : List (γ × Int) := p.flatMap fun x => rowL op x q
theorem prodL_cons (op : α → β → γ) (x : α × Int) (p : List (α × Int)) (q : List (β × Int)) : prodL op (x :: p) q = rowL op x q ++ prodL op p q := by
  unfold prodL
  rw [List.flatMap_cons]
theorem prodL_app (op : α → β → γ) (a b : List (α × Int)) (q : List (β × Int)) : prodL op (a ++ b) q = prodL op a q ++ prodL op b q := by
  unfold prodL
  rw [List.flatMap_append]
/-- one more term on the right -/
theorem tot_prod_cons (op : α → β → γ) (y : β × Int) (q : List (β × Int)) (k : γ) : ∀ p : List (α × Int), tot (prodL op p (y :: q)) k = tot (p.map fun x => (op x.1 y.1, x.2 * y.2)) k + tot (prodL op p q) k
  | [] => by show (0 : Int) = 0 + 0; rfl
  | x :: p => by
    rw [prodL_cons, prodL_cons, tot_app, tot_app, tot_prod_cons op y q k p]
    show ((if op x.1 y.1 = k then x.2 * y.2 else 0) + tot (rowL op x q) k) + _ = ((if op x.1 y.1 = k then x.2 * y.2 else 0) + _) + _
    omega
/-- turned about -/
theorem tot_prod_comm (op : α → α → γ) (c : ∀ a b, op a b = op b a) (k : γ) (q : List (α × Int)) : ∀ p : List (α × Int), tot (prodL op p q) k = tot (prodL op q p) k
  | [] => by
    have : prodL op q ([] : List (α × Int)) = [] := by
      unfold prodL
      induction q with
      | nil => rfl
      | cons y q ih => rw [List.flatMap_cons, ih]; rfl
    rw [this]
    rfl
  | x :: p => by
    rw [prodL_cons, tot_app, tot_prod_comm op c k q p, tot_prod_cons op x p k q]
    have : (q.map fun y => (op y.1 x.1, y.2 * x.2)) = rowL op x q := by
      unfold rowL
      refine List.map_congr_left fun y _ => ?_
      rw [c, Int.mul_comm]
    rw [this]
/-- a row with another factor -/
theorem tot_scale (f : α → γ) (c : Int) (k : γ) : ∀ l : List (α × Int), tot (l.map fun x => (f x.1, c * x.2)) k = c * tot (l.map fun x => (f x.1, x.2)) k
  | [] => (Int.mul_zero c).symm
  | x :: l => by
    show (if f x.1 = k then c * x.2 else 0) + tot (l.map fun x => (f x.1, c * x.2)) k = c * ((if f x.1 = k then x.2 else 0) + tot (l.map fun x => (f x.1, x.2)) k)
    rw [tot_scale f c k l, Int.mul_add]
    split
    · rfl
    · rw [Int.mul_zero]
/-- only what the left sums up counts -/
theorem tot_row_sum (op : α → β → γ) (q : List (β × Int)) (k : γ) : ∀ l : List (α × Int), ∀ p : List (α × Int), (∀ (a : α), tot l a = tot p a) → ∀ keys : List α, keys.Nodup → (∀ x ∈ l, x.1 ∈ keys) → (∀ x ∈ p, x.1 ∈ keys) → tot (prodL op l q) k = tot (prodL op p q) k := by
  have norm : ∀ (keys : List α), keys.Nodup → ∀ l : List (α × Int), (∀ x ∈ l, x.1 ∈ keys) → tot (prodL op l q) k = tot (prodL op (keys.map fun a => (a, tot l a)) q) k := by
    intro keys nd l
    induction l with
    | nil =>
      intro _
      have z : ∀ ks : List α, tot (prodL op (ks.map fun a => (a, tot ([] : List (α × Int)) a)) q) k = 0 := by
        intro ks
        induction ks with
        | nil => rfl
        | cons a ks ih =>
          rw [List.map_cons, prodL_cons, tot_app, ih]
          show tot (rowL op (a, (0 : Int)) q) k + 0 = 0
          have := tot_scale (fun b => op a b) 0 k q
          rw [Int.zero_mul] at this
          show tot (q.map fun y => (op a y.1, 0 * y.2)) k + 0 = 0
          rw [this]
          rfl
      rw [z]
      rfl
    | cons x l ih =>
      intro h
      rw [prodL_cons, tot_app, ih fun y hy => h y (List.mem_cons_of_mem _ hy)]
      have step : ∀ ks : List α, ks.Nodup → tot (prodL op (ks.map fun a => (a, tot (x :: l) a)) q) k = (if x.1 ∈ ks then tot (rowL op x q) k else 0) + tot (prodL op (ks.map fun a => (a, tot l a)) q) k := by
        intro ks
        induction ks with
        | nil => intro _; rfl
        | cons a ks ih2 =>
          intro nd2
          obtain ⟨n1, n2⟩ := List.nodup_cons.mp nd2
          rw [List.map_cons, List.map_cons, prodL_cons, prodL_cons, tot_app, tot_app, ih2 n2]
          have r1 : tot (rowL op (a, tot (x :: l) a) q) k = (if x.1 = a then tot (rowL op x q) k else 0) + tot (rowL op (a, tot l a) q) k := by
            show tot (q.map fun y => (op a y.1, tot (x :: l) a * y.2)) k = _ + tot (q.map fun y => (op a y.1, tot l a * y.2)) k
            rw [tot_scale (fun b => op a b), tot_scale (fun b => op a b)]
            show ((if x.1 = a then x.2 else 0) + tot l a) * _ = _
            rw [Int.add_mul]
            congr 1
            by_cases e : x.1 = a
            · rw [if_pos e, if_pos e]
              show _ = tot (q.map fun y => (op x.1 y.1, x.2 * y.2)) k
              rw [tot_scale (fun b => op x.1 b), e]
            · rw [if_neg e, if_neg e, Int.zero_mul]
          rw [r1]
          by_cases e : x.1 = a
          · rw [if_pos e, if_neg (by rw [e]; exact n1), if_pos (by rw [e]; exact List.mem_cons_self ..)]
            omega
          · rw [if_neg e]
            by_cases m : x.1 ∈ ks
            · rw [if_pos m, if_pos (List.mem_cons_of_mem _ m)]
              omega
            · rw [if_neg m, if_neg fun z => (List.mem_cons.mp z).elim e m]
              omega
      rw [step keys nd, if_pos (h x (List.mem_cons_self ..))]
  intro l p e keys nd hl hp
  rw [norm keys nd l hl, norm keys nd p hp]
  congr 2
  exact List.map_congr_left fun a _ => by rw [e]
end K2P

set_option Elab.async false
set_option linter.all false
/-! Products of tables: one behind another, over a sum. Speaks of no program. -/
namespace K2P
variable {α : Type} [DecidableEq α]
theorem rowL_app (op : α → α → α) (x : α × Int) (a b : List (α × Int)) : rowL op x (a ++ b) = rowL op x a ++ rowL op x b := List.map_append
theorem prodL_row (op : α → α → α) (as : ∀ a b c, op (op a b) c = op a (op b c)) (x : α × Int) (r : List (α × Int)) : ∀ q : List (α × Int), prodL op (rowL op x q) r = rowL op x (prodL op q r)
  | [] => rfl
  | y :: q => by
    show prodL op ((op x.1 y.1, x.2 * y.2) :: rowL op x q) r = _
    rw [prodL_cons, prodL_cons, rowL_app, prodL_row op as x r q]
    congr 1
    show (r.map fun z => (op (op x.1 y.1) z.1, x.2 * y.2 * z.2)) = (r.map fun z => (op y.1 z.1, y.2 * z.2)).map fun z => (op x.1 z.1, x.2 * z.2)
    rw [List.map_map]
    refine List.map_congr_left fun z _ => ?_
    show (op (op x.1 y.1) z.1, x.2 * y.2 * z.2) = (op x.1 (op y.1 z.1), x.2 * (y.2 * z.2))
    rw [as, Int.mul_assoc]
/-- one behind another, in either sequence -/
theorem prodL_assoc (op : α → α → α) (as : ∀ a b c, op (op a b) c = op a (op b c)) (q r : List (α × Int)) : ∀ p : List (α × Int), prodL op (prodL op p q) r = prodL op p (prodL op q r)
  | [] => rfl
  | x :: p => by rw [prodL_cons, prodL_cons, prodL_app, prodL_row op as, prodL_assoc op as q r p]
/-- by the one of the keys -/
theorem prodL_one (op : α → α → α) (e : α) (u : ∀ a, op e a = a) (q : List (α × Int)) : prodL op [(e, 1)] q = q := by
  rw [prodL_cons]
  show (q.map fun y => (op e y.1, 1 * y.2)) ++ [] = q
  rw [List.append_nil]
  have : ∀ y ∈ q, ((op e y.1, 1 * y.2) : α × Int) = y := fun y _ => by rw [u, Int.one_mul]
  rw [List.map_congr_left this, List.map_id']
/-- a table that sums up to the same may stand in place of a factor, to the right too -/
theorem tot_prod_right (op : α → α → α) (c : ∀ a b, op a b = op b a) (q : List (α × Int)) (k : α) (l p : List (α × Int)) (e : ∀ a, tot l a = tot p a) (keys : List α) (nd : keys.Nodup) (hl : ∀ x ∈ l, x.1 ∈ keys) (hp : ∀ x ∈ p, x.1 ∈ keys) :
    tot (prodL op q l) k = tot (prodL op q p) k := by
  rw [tot_prod_comm op c k l q, tot_prod_comm op c k p q]
  exact tot_row_sum op q k l p e keys nd hl hp
/-- keys of both, each once -/
theorem keys_both (l p : List (α × Int)) : ∃ keys : List α, keys.Nodup ∧ (∀ x ∈ l, x.1 ∈ keys) ∧ ∀ x ∈ p, x.1 ∈ keys := by
  have one : ∀ m : List (α × Int), ∃ keys : List α, keys.Nodup ∧ ∀ x ∈ m, x.1 ∈ keys := by
    intro m
    induction m with
    | nil => exact ⟨[], List.nodup_nil, fun x h => nomatch h⟩
    | cons y m ih =>
      obtain ⟨ks, h1, h2⟩ := ih
      by_cases e : y.1 ∈ ks
      · refine ⟨ks, h1, fun x hx => (List.mem_cons.mp hx).elim (fun q => ?_) (h2 x)⟩
        rw [q]
        exact e
      · refine ⟨y.1 :: ks, List.nodup_cons.mpr ⟨e, h1⟩, fun x hx => (List.mem_cons.mp hx).elim (fun q => ?_) (fun q => List.mem_cons_of_mem _ (h2 x q))⟩
        rw [q]
        exact List.mem_cons_self ..
  obtain ⟨ks, h1, h2⟩ := one (l ++ p)
  exact ⟨ks, h1, fun x hx => h2 x (List.mem_append_left _ hx), fun x hx => h2 x (List.mem_append_right _ hx)⟩
/-- both factors by what they sum up -/
theorem tot_prod_ext (op : α → α → α) (c : ∀ a b, op a b = op b a) {l p m n : List (α × Int)} (e : ∀ a, tot l a = tot p a) (f : ∀ a, tot m a = tot n a) (k : α) : tot (prodL op l m) k = tot (prodL op p n) k := by
  obtain ⟨ks, nd, h1, h2⟩ := keys_both l p
  obtain ⟨js, nj, g1, g2⟩ := keys_both m n
  rw [tot_row_sum op m k l p e ks nd h1 h2, tot_prod_right op c p k m n f js nj g1 g2]
/-- a product over a sum -/
theorem tot_prod_add (op : α → α → α) (a b q : List (α × Int)) (k : α) : tot (prodL op (a ++ b) q) k = tot (prodL op a q) k + tot (prodL op b q) k := by
  rw [prodL_app, tot_app]
end K2P

set_option Elab.async false
set_option linter.all false
set_option maxRecDepth 100000
set_option maxHeartbeats 4000000
/-! Dicts from flat keys (ints or texts) to ints, as lists of pairs. Speaks of no program. -/
namespace K2P
open PySem L2
section
variable {κ : Type} [DecidableEq κ]
def valT (T : List (κ × Int)) (k : κ) : Option Int := (T.find? fun x => decide (x.1 = k)).map (·.2)
def putT (T : List (κ × Int)) (k : κ) (c : Int) : List (κ × Int) := if (valT T k).isSome then T.map fun x => if x.1 = k then (x.1, c) else x else T ++ [(k, c)]
def getT (T : List (κ × Int)) (k : κ) : Int := (valT T k).getD 0
theorem valT_cons (x : κ × Int) (T : List (κ × Int)) (k : κ) : valT (x :: T) k = if x.1 = k then some x.2 else valT T k := by
  unfold valT
  rw [List.find?_cons]
  by_cases e : x.1 = k
  · simp [e]
  · simp [e]
theorem valT_none : ∀ {T : List (κ × Int)} {k : κ}, valT T k = none ↔ k ∉ T.map (·.1)
  | [], k => by simp [valT]
  | x :: T, k => by
    rw [valT_cons, List.map_cons, List.mem_cons]
    by_cases e : x.1 = k
    · simp [e]
    · rw [if_neg e, valT_none]
      simp [show ¬ k = x.1 from fun z => e z.symm]
theorem valT_mem : ∀ {T : List (κ × Int)}, (T.map (·.1)).Nodup → ∀ {k : κ} {c : Int}, valT T k = some c ↔ (k, c) ∈ T
  | [], _, k, c => by simp [valT]
  | x :: T, nd, k, c => by
    have nd' := List.nodup_cons.mp nd
    rw [valT_cons, List.mem_cons]
    by_cases e : x.1 = k
    · rw [if_pos e]
      constructor
      · intro h
        have h := Option.some.inj h
        exact .inl (by rw [← e, ← h])
      · rintro (h | h)
        · rw [← h]
        · exact absurd (List.mem_map.mpr ⟨(k, c), h, e.symm⟩) nd'.1
    · rw [if_neg e, valT_mem nd'.2]
      constructor
      · exact .inr
      · rintro (h | h)
        · rw [← h] at e; exact absurd rfl e
        · exact h
theorem getT_tot : ∀ {T : List (κ × Int)}, (T.map (·.1)).Nodup → ∀ k, getT T k = tot T k
  | [], _, k => rfl
  | x :: T, nd, k => by
    have nd' := List.nodup_cons.mp nd
    show _ = (if x.1 = k then x.2 else 0) + tot T k
    rw [← getT_tot nd'.2 k]
    unfold getT
    rw [valT_cons]
    by_cases e : x.1 = k
    · rw [if_pos e, if_pos e, valT_none.mpr (by rw [← e]; exact nd'.1)]
      exact (Int.add_zero _).symm
    · rw [if_neg e, if_neg e, Int.zero_add]
theorem keys_putT (T : List (κ × Int)) (k : κ) (c : Int) : (putT T k c).map (·.1) = if (valT T k).isSome then T.map (·.1) else T.map (·.1) ++ [k] := by
  unfold putT
  split
  · rw [List.map_map]
    refine List.map_congr_left fun x _ => ?_
    show (if x.1 = k then (x.1, c) else x).1 = x.1
    split <;> rfl
  · rw [List.map_append]; rfl
theorem nodup_putT {T : List (κ × Int)} (nd : (T.map (·.1)).Nodup) (k : κ) (c : Int) : ((putT T k c).map (·.1)).Nodup := by
  rw [keys_putT]
  split
  · exact nd
  · rename_i h
    have : valT T k = none := by simpa using h
    exact List.nodup_append.mpr ⟨nd, by simp, fun a ha b hb e => by
      rw [List.mem_singleton] at hb
      rw [e, hb] at ha
      exact valT_none.mp this ha⟩
theorem mem_keys_putT {T : List (κ × Int)} {k j : κ} {c : Int} : j ∈ (putT T k c).map (·.1) ↔ j ∈ T.map (·.1) ∨ j = k := by
  rw [keys_putT]
  split
  · rename_i h
    constructor
    · exact .inl
    · rintro (q | q)
      · exact q
      · rw [q]
        cases hv : valT T k with
        | none => rw [hv] at h; cases h
        | some v => exact Classical.byContradiction fun z => by rw [valT_none.mpr z] at hv; cases hv
  · rw [List.mem_append, List.mem_singleton]
theorem len_putT (T : List (κ × Int)) (k : κ) (c : Int) : (putT T k c).length ≤ T.length + 1 := by
  unfold putT
  split
  · rw [List.length_map]; omega
  · rw [List.length_append]; exact Nat.le_refl _
theorem le_putT (T : List (κ × Int)) (k : κ) (c : Int) : T.length ≤ (putT T k c).length := by
  unfold putT
  split
  · rw [List.length_map]; omega
  · rw [List.length_append]; omega
theorem valT_put : ∀ (T : List (κ × Int)) (k : κ) (c : Int) (j : κ), valT (putT T k c) j = if j = k then some c else valT T j := by
  have rep : ∀ (T : List (κ × Int)) (k : κ) (c : Int) (j : κ), valT (T.map fun x => if x.1 = k then (x.1, c) else x) j = (valT T j).map fun v => if j = k then c else v := by
    intro T k c j
    induction T with
    | nil => rfl
    | cons x T ih =>
      rw [List.map_cons, valT_cons, valT_cons, ih]
      by_cases e : x.1 = k
      · rw [if_pos e]
        by_cases e2 : x.1 = j
        · rw [if_pos e2, if_pos e2]
          show some c = some (if j = k then c else x.2)
          rw [if_pos (e2.symm.trans e)]
        · rw [if_neg e2, if_neg e2]
      · rw [if_neg e]
        by_cases e2 : x.1 = j
        · rw [if_pos e2, if_pos e2]
          show some x.2 = some (if j = k then c else x.2)
          rw [if_neg (fun z => e (e2.trans z))]
        · rw [if_neg e2, if_neg e2]
  intro T k c j
  unfold putT
  split
  · rename_i h
    rw [rep]
    by_cases e : j = k
    · subst e
      rw [if_pos rfl]
      cases q : valT T j with
      | none => rw [q] at h; cases h
      | some v => show some (if j = j then c else v) = _; rw [if_pos rfl]
    · rw [if_neg e]
      cases valT T j with
      | none => rfl
      | some v => show some (if j = k then c else v) = _; rw [if_neg e]
  · rename_i h
    have h : valT T k = none := by simpa using h
    have app : ∀ T : List (κ × Int), valT T k = none → valT (T ++ [(k, c)]) j = if j = k then some c else valT T j := by
      intro T
      induction T with
      | nil =>
        intro _
        show valT ((k, c) :: []) j = _
        rw [valT_cons]
        by_cases e : j = k
        · rw [if_pos e, if_pos e.symm]
        · rw [if_neg e, if_neg (fun z => e z.symm)]
      | cons x T ih =>
        intro hn
        rw [valT_cons] at hn
        by_cases e : x.1 = k
        · rw [if_pos e] at hn; cases hn
        · rw [if_neg e] at hn
          rw [List.cons_append, valT_cons, valT_cons, ih hn]
          by_cases e2 : x.1 = j
          · rw [if_pos e2, if_pos e2, if_neg (fun z => e (e2.trans z))]
          · rw [if_neg e2, if_neg e2]
    exact app T h
theorem getT_put (T : List (κ × Int)) (k : κ) (c : Int) (j : κ) : getT (putT T k c) j = if j = k then c else getT T j := by
  unfold getT
  rw [valT_put]
  split <;> rfl
/-! ### as a dict -/
def mpT (e : κ → Key) (T : List (κ × Int)) : List (Key × V) := T.map fun x => (e x.1, V.int x.2)
theorem len_mpT (e : κ → Key) (T : List (κ × Int)) : (mpT e T).length = T.length := List.length_map ..
theorem valV_mpT {e : κ → Key} (inj : ∀ a b, e a = e b → a = b) : ∀ (T : List (κ × Int)) (k : κ), valV (mpT e T) (e k) = (valT T k).map V.int
  | [], k => rfl
  | x :: T, k => by
    show valV ((e x.1, V.int x.2) :: mpT e T) (e k) = _
    rw [valT_cons]
    by_cases h : x.1 = k
    · rw [if_pos h, valV_pos (p := (e x.1, V.int x.2)) (by rw [h])]
      rfl
    · rw [if_neg h, valV_neg (p := (e x.1, V.int x.2)) (fun z => h (inj _ _ z)), valV_mpT inj T k]
theorem putK_mpT {e : κ → Key} (inj : ∀ a b, e a = e b → a = b) (T : List (κ × Int)) (k : κ) (c : Int) : putK (mpT e T) (e k) (.int c) = mpT e (putT T k c) := by
  unfold putK putT
  rw [valV_any, valV_mpT inj, Option.isSome_map]
  split
  · unfold mpT
    rw [List.map_map, List.map_map]
    refine List.map_congr_left fun x _ => ?_
    show (if e x.1 = e k then (e x.1, V.int c) else (e x.1, V.int x.2)) = (e (if x.1 = k then (x.1, c) else x).1, V.int (if x.1 = k then (x.1, c) else x).2)
    by_cases h : x.1 = k
    · rw [if_pos (by rw [h]), if_pos h]
    · rw [if_neg (fun z => h (inj _ _ z)), if_neg h]
  · unfold mpT
    rw [List.map_append]
    rfl
theorem getD_mpT {e : κ → Key} (inj : ∀ a b, e a = e b → a = b) (T : List (κ × Int)) (k : κ) : (valV (mpT e T) (e k)).getD (.int 0) = .int (getT T k) := by
  rw [valV_mpT inj]
  unfold getT
  cases valT T k <;> rfl
theorem at_mpT {e : κ → Key} {T : List (κ × Int)} {i : Nat} {k : Key} {v : V} (h : (mpT e T)[i]? = some (k, v)) : ∃ x, T[i]? = some x ∧ k = e x.1 ∧ v = .int x.2 := by
  unfold mpT at h
  rw [List.getElem?_map] at h
  obtain ⟨x, hx, q⟩ := Option.map_eq_some_iff.mp h
  exact ⟨x, hx, (Prod.mk.inj q).1.symm, (Prod.mk.inj q).2.symm⟩
end
/-- int keys -/
abbrev KI := List (Int × Int)
def eI : Int → Key := Sum.inl
theorem eI_inj : ∀ a b, eI a = eI b → a = b := fun _ _ h => Sum.inl.inj h
def eS : Str → Key := Sum.inr
theorem eS_inj : ∀ a b, eS a = eS b → a = b := fun _ _ h => Sum.inr.inj h
/-- at d a dict of int keys, its pairs T -/
def TabAt (H : Hp) (d : Addr) (T : KI) : Prop := H d = some (.dK (mpT eI T)) ∧ (T.map (·.1)).Nodup
theorem TabAt.up {H H' : Hp} {d : Addr} {T : KI} (h : TabAt H d T) (s : Same H H') : TabAt H' d T := ⟨s _ _ h.1, h.2⟩
/-! ### rows of products -/
def addT (T : KI) (k c : Int) : KI := putT T k (getT T k + c)
def rowT (T : KI) (k m : Int) (C : KI) : KI := C.foldl (fun T y => addT T (k + y.1) (m * y.2)) T
theorem nodup_addT {T : KI} (nd : (T.map (·.1)).Nodup) (k c : Int) : ((addT T k c).map (·.1)).Nodup := nodup_putT nd _ _
theorem tot_addT {T : KI} (nd : (T.map (·.1)).Nodup) (k c j : Int) : tot (addT T k c) j = tot T j + if k = j then c else 0 := by
  rw [← getT_tot (nodup_addT nd k c), ← getT_tot nd]
  unfold addT
  rw [getT_put]
  by_cases e : j = k
  · rw [if_pos e, if_pos e.symm, e]
  · rw [if_neg e, if_neg (fun z => e z.symm), Int.add_zero]
theorem nodup_rowT {k m : Int} : ∀ {C T : KI}, (T.map (·.1)).Nodup → ((rowT T k m C).map (·.1)).Nodup
  | [], _, h => h
  | y :: C, T, h => nodup_rowT (C := C) (nodup_addT h _ _)
theorem tot_rowT {k m j : Int} : ∀ {C T : KI}, (T.map (·.1)).Nodup → tot (rowT T k m C) j = tot T j + tot (rowL (· + ·) (k, m) C) j
  | [], T, _ => by show tot T j = tot T j + 0; omega
  | y :: C, T, h => by
    show tot (rowT (addT T (k + y.1) (m * y.2)) k m C) j = _ + ((if k + y.1 = j then m * y.2 else 0) + tot (rowL (· + ·) (k, m) C) j)
    rw [tot_rowT (nodup_addT h _ _), tot_addT h]
    omega
theorem len_rowT {k m : Int} : ∀ {C T : KI}, (rowT T k m C).length ≤ T.length + C.length
  | [], T => by show T.length ≤ T.length + 0; omega
  | y :: C, T => by
    have h1 := len_rowT (k := k) (m := m) (C := C) (T := addT T (k + y.1) (m * y.2))
    have h2 := len_putT T (k + y.1) (getT T (k + y.1) + m * y.2)
    show (rowT (addT T (k + y.1) (m * y.2)) k m C).length ≤ T.length + (C.length + 1)
    unfold addT at h1 ⊢
    omega
theorem rowT_take {C : KI} {i : Nat} {y : Int × Int} (h : C[i]? = some y) (T : KI) (k m : Int) : rowT T k m (C.take (i + 1)) = addT (rowT T k m (C.take i)) (k + y.1) (m * y.2) := by
  have lt : i < C.length := (List.getElem?_eq_some_iff.mp h).1
  have e : C[i] = y := (List.getElem?_eq_some_iff.mp h).2
  unfold rowT
  rw [List.take_succ_eq_append_getElem lt, List.foldl_append, e]
  rfl
theorem keys_rowT {k m j : Int} : ∀ {C T : KI}, j ∈ (rowT T k m C).map (·.1) → j ∈ T.map (·.1) ∨ ∃ y ∈ C, j = k + y.1
  | [], _, h => .inl h
  | y :: C, T, h => by
    rcases keys_rowT (C := C) (T := addT T (k + y.1) (m * y.2)) h with h | ⟨z, hz, e⟩
    · rcases mem_keys_putT.mp h with h | h
      · exact .inl h
      · exact .inr ⟨y, List.mem_cons_self .., h⟩
    · exact .inr ⟨z, List.mem_cons_of_mem _ hz, e⟩
def prodT (P C : KI) : KI := P.foldl (fun T x => rowT T x.1 x.2 C) []
theorem prodT_take {P C : KI} {i : Nat} {x : Int × Int} (h : P[i]? = some x) : prodT (P.take (i + 1)) C = rowT (prodT (P.take i) C) x.1 x.2 C := by
  have lt : i < P.length := (List.getElem?_eq_some_iff.mp h).1
  have e : P[i] = x := (List.getElem?_eq_some_iff.mp h).2
  unfold prodT
  rw [List.take_succ_eq_append_getElem lt, List.foldl_append, e]
  rfl
theorem foldl_prod {C : KI} : ∀ {P T : KI}, (T.map (·.1)).Nodup → ((P.foldl (fun T x => rowT T x.1 x.2 C) T).map (·.1)).Nodup ∧ ∀ j, tot (P.foldl (fun T x => rowT T x.1 x.2 C) T) j = tot T j + tot (prodL (· + ·) P C) j
  | [], T, h => ⟨h, fun j => by show tot T j = tot T j + 0; omega⟩
  | x :: P, T, h => by
    obtain ⟨h1, h2⟩ := foldl_prod (C := C) (P := P) (nodup_rowT (k := x.1) (m := x.2) (C := C) h)
    refine ⟨h1, fun j => ?_⟩
    have q : tot (rowT T x.1 x.2 C) j = tot T j + tot (rowL (· + ·) x C) j := tot_rowT (k := x.1) (m := x.2) (C := C) (j := j) h
    rw [List.foldl_cons, h2, q, prodL_cons, tot_app]
    omega
theorem nodup_prodT (P C : KI) : ((prodT P C).map (·.1)).Nodup := (foldl_prod (C := C) (P := P) (T := []) List.nodup_nil).1
theorem tot_prodT (P C : KI) (j : Int) : tot (prodT P C) j = tot (prodL (· + ·) P C) j := by
  have := (foldl_prod (C := C) (P := P) (T := []) List.nodup_nil).2 j
  rw [show tot ([] : KI) j = 0 from rfl, Int.zero_add] at this
  exact this
theorem len_foldl_prod {C : KI} : ∀ {P T : KI}, (P.foldl (fun T x => rowT T x.1 x.2 C) T).length ≤ T.length + P.length * C.length
  | [], T => by show T.length ≤ T.length + 0 * C.length; omega
  | x :: P, T => by
    have h1 := len_foldl_prod (C := C) (P := P) (T := rowT T x.1 x.2 C)
    have h2 := len_rowT (k := x.1) (m := x.2) (C := C) (T := T)
    rw [List.foldl_cons, List.length_cons, Nat.succ_mul]
    omega
theorem len_prodT (P C : KI) : (prodT P C).length ≤ P.length * C.length := by
  have := len_foldl_prod (C := C) (P := P) (T := [])
  rw [List.length_nil, Nat.zero_add] at this
  exact this
def nzT (T : KI) : KI := T.filter fun x => decide (x.2 ≠ 0)
theorem nodup_nzT {T : KI} (h : (T.map (·.1)).Nodup) : ((nzT T).map (·.1)).Nodup := h.sublist (List.filter_sublist.map _)
end K2P

set_option Elab.async false
set_option linter.all false
set_option maxRecDepth 100000
set_option maxHeartbeats 4000000
/-! sorted(d.items()), d's keys and values ints. Speaks of no program. -/
namespace K2P
open PySem PySem.Spec PyProof.Rows L2 K1D
def pairI (x : Int × Int) : NestedKey := .tup [.num x.1, .num x.2]
def riseP (T : KI) : KI := T.mergeSort (PySem.W.dataLe false fun x => (pairI x).data)
theorem riseP_perm (T : KI) : (riseP T).Perm T := List.mergeSort_perm _ _
theorem al_pairI (x y : Int × Int) : PySem.W.alike (pairI x).data (pairI y).data = true := by
  show PySem.W.alike (.tuple [.int x.1, .int x.2]) (.tuple [.int y.1, .int y.2]) = true
  simp only [PySem.W.alike, PySem.W.alikeAll, Bool.and_self]
/-- at L a list of pairs -/
def ColsAt (K : PySem.W.Frag) (H : Hp) (L : Addr) (C : KI) : Prop := ∃ zs, H L = some (.lst zs) ∧ KeyVs K H (C.map pairI) zs
theorem pairs_at {P : Program} {w : World} : ∀ {T : KI} {vs : List (L2.Key × Value)} {es : List DictEntry}, KV (mpT eI T) vs → Pairs (mixKind P w) es vs → ∀ {j : Nat} {y : Int × Int}, T[j]? = some y → ∃ (e : DictEntry) (t1 t2 : Tok), es[j]? = some e ∧ e.key = .int y.1 t1 ∧ e.val = .int y.2 t2
  | [], _, _, _, _, j, y, h => by simp at h
  | x :: T, _, _, .cons (b := b) r rs, .cons (e := e) h1 h2 hs, j, y, h => by
    cases j with
    | zero =>
      simp only [List.getElem?_cons_zero, Option.some.injEq] at h
      subst h
      obtain ⟨r1, r2⟩ := r
      have k1 : keyIs (Sum.inl x.1) e.key = true := by
        have : b.1 = Sum.inl x.1 := r1.symm
        rw [← this]
        exact h1
      rcases keyIs_shape k1 with ⟨i, t, e1, e2⟩ | ⟨z, t, e1, e2⟩
      · cases e1
        obtain ⟨t2, e3⟩ := (r2 : RelV (.int x.2) b.2)
        exact ⟨e, t, t2, rfl, e2, by rw [h2, e3]⟩
      · cases e1
    | succ j =>
      simp only [List.getElem?_cons_succ] at h ⊢
      exact pairs_at rs hs h
def rSortItI (K : PySem.W.Frag) : List V → Hp → VK → Prop := fun vs H Q => ∃ (p a : Addr) (T : KI), vs = [.ref p] ∧ H p = some (DX.itemsO p a) ∧ H a = some (.dK (mpT eI T)) ∧
  ∀ (H' : Hp) (l : Addr), (∀ b o, H b = some o → H' b = some o) → H l = none → ColsAt K H' l (riseP T) → Q (.ref l) H'
section
variable {X : Cx}
theorem cr_sortItI (hc : X.calm = true) (hu : X.A.units + 64 < cLine) : CallR X (.builtin "sorted") (rSortItI X.K) := by
  intro pn s σ H xs us Q I r h
  obtain ⟨p, a, T, rfl, hp, ha, q⟩ := h
  obtain rfl := Vals.ref1 r
  have view : s.heap.IsItemsView p a := (show ObjOk X.prog X.w H s.heap p (DX.itemsO p a) from I.hok p _ hp).1
  obtain ⟨hz, hs0, vs, kv, hdo⟩ := dk_of I.hok ha
  obtain ⟨o, es, ep, ho, hx, hdat, hko, hpr, hnd⟩ := id hdo
  have l1 := hpr.length
  rw [Array.length_toList] at l1
  have l2 : (mpT eI T).length = vs.length := Paired.length kv
  rw [len_mpT] at l2 hz
  refine DT.sortedI (es := es) (ep := ep) (I.ok.hd hc) view ⟨o, ho, hx, hdat⟩ (by omega) fun h' tk as hk hlt hl hG => ?_
  have nd : as.Nodup := List.Pairwise.imp (fun h => Nat.ne_of_lt h) hG.rise
  have lam : as.length = T.length := by omega
  have pr : ∀ (j : Nat) (b : Addr) (y : Int × Int), as[j]? = some b → T[j]? = some y → ∃ (t1 t : Tok), h'.get? b = some { cls := .type "tuple", data := .seq #[Value.int y.1 t1, Value.int y.2 t] } := by
    intro j b y hj hy
    obtain ⟨en, hen, hg⟩ := hG.pairs j b hj
    obtain ⟨e, t1, t2, he, h1, h2⟩ := pairs_at kv hpr hy
    rw [← Array.getElem?_toList, he] at hen
    cases hen
    exact ⟨t1, t2, by rw [hg, h1, h2]⟩
  have hob : (h'.push { cls := .type "list", data := .seq (as.map Value.ref).toArray }).get? h'.objs.size = some (seqObj "list" (as.map Value.ref).toArray 0) := Heap.get?_push_size _ rfl
  have ka : ∀ b o, h'.get? b = some o → (h'.push { cls := .type "list", data := .seq (as.map Value.ref).toArray }).get? b = some o := fun b o e => Heap.get?_push_of_some _ e
  have ne0 : ∀ b o, h'.get? b = some o → b ≠ h'.objs.size := fun b o e => Nat.ne_of_lt (Heap.lt_size e)
  generalize hh2 : h'.push { cls := .type "list", data := .seq (as.map Value.ref).toArray } = h2 at hob ka ⊢
  have kb : ∀ b o, s.heap.get? b = some o → h2.get? b = some o := fun b o e => ka b o (hk b o e)
  let Rt : Value → Int × Int → Prop := fun v y => ∃ (j : Nat) (b : Addr), v = .ref b ∧ as[j]? = some b ∧ T[j]? = some y
  have e1 : PySem.W.EachIs Rt (as.map Value.ref) T := each_of (by rw [List.length_map]; exact lam) fun j v y hv hy => by
    rw [List.getElem?_map] at hv
    obtain ⟨b, hb, rfl⟩ := Option.map_eq_some_iff.mp hv
    exact ⟨j, b, rfl, hb, hy⟩
  have e2 : PySem.W.EachIs (fun v y => ∃ as', Reads h2 v (pairI y).data as' ∧ h'.objs.size ∉ as') (as.map Value.ref) T := e1.mono fun v y ⟨j, b, ev, hb, hy⟩ => by
    obtain ⟨t1, t, hg⟩ := pr j b y hb hy
    subst ev
    have r2 : ReadsAll h2 [Value.int y.1 t1, Value.int y.2 t] [.int y.1, .int y.2] [] := ReadsAll.cons (Reads.int y.1 t1) (ReadsAll.cons (Reads.int y.2 t) ReadsAll.nil)
    exact ⟨[], Reads.tuple (ka _ _ hg) rfl rfl r2, by simp⟩
  have hal : PySem.W.AllAlike (T.map fun x => (pairI x).data) := by
    intro d1 h1 d2 h2'
    obtain ⟨y1, m1, rfl⟩ := List.mem_map.mp h1
    obtain ⟨y2, m2, rfl⟩ := List.mem_map.mp h2'
    exact al_pairI y1 y2
  refine PySem.W.list_sort_data (s := { s with heap := h2, toks := tk }) hob e1 e2 hal (PySem.W.Sortable.tuples fun y => ⟨_, _, rfl⟩) (by omega) (fun y hy => ?_) fun out ol oe => ?_
  · have : (pairI y).data.depth = 1 := rfl
    rw [Around.in1_units]
    omega
  · show EP X pn σ Q (.ref h'.objs.size) { s with heap := sortedHeap h2 h'.objs.size (as.map Value.ref) out.toArray, toks := tk }
    have kF : ∀ b o, b ≠ h'.objs.size → h2.get? b = some o → (sortedHeap h2 h'.objs.size (as.map Value.ref) out.toArray).get? b = some o := fun b o hb e => (PyProof.Rows.sortedHeap_old hb (Heap.lt_size e)).trans e
    have kS : ∀ b o, s.heap.get? b = some o → (sortedHeap h2 h'.objs.size (as.map Value.ref) out.toArray).get? b = some o := fun b o e => kF b o (ne0 _ _ (hk b o e)) (kb b o e)
    obtain ⟨eF, heF⟩ := PyProof.Rows.sortedHeap_at (vs := as.map Value.ref) (out := out.toArray) hob
    generalize hF : sortedHeap h2 h'.objs.size (as.map Value.ref) out.toArray = hf at kF kS heF ⊢
    have I1 : Inv X pn σ H { s with heap := hf, toks := tk } := I.kept (t' := tk) kS
    have hn0 : H h'.objs.size = none := I.hok.fresh (Nat.le_of_lt hlt)
    obtain ⟨cs, ecs, ecm⟩ := each_addr (T := fun b y => ∃ j : Nat, as[j]? = some b ∧ T[j]? = some y) (oe.mono fun v y ⟨j, b, ev, hb, hy⟩ => ⟨b, ev, j, hb, hy⟩)
    have lcs : cs.length = T.length := by rw [ecm.length, List.length_mergeSort]
    have I2 : Inv X pn σ (upd H h'.objs.size (.lst (cs.map V.ref))) { s with heap := hf, toks := tk } :=
      I1.take (h' := hf) (t' := tk) (fun b ob _ e => e) (I.fpOk (Nat.le_of_lt hlt) hn0) ⟨by rw [List.length_map]; omega, out, eF, by rw [ecs]; exact vals_refs _, heF⟩
    obtain ⟨H2, I3, g, qt⟩ := DX.takeT (P := fun b vs => ∃ (j : Nat) (y : Int × Int), as[j]? = some b ∧ T[j]? = some y ∧ vs = [.int y.1, .int y.2]) I as _ I2 nd fun b hb => by
      obtain ⟨j, hj⟩ := List.mem_iff_getElem?.mp hb
      have hjl : j < T.length := by rw [← lam]; exact (List.getElem?_eq_some_iff.mp hj).1
      have hy : T[j]? = some T[j] := List.getElem?_eq_getElem hjl
      obtain ⟨t1, t, hg⟩ := pr j b _ hj hy
      have hbl : s.heap.objs.size ≤ b := Nat.le_of_lt (hG.above b hb)
      refine ⟨hbl, ?_, [.int T[j].1, .int T[j].2], ⟨j, T[j], hj, hy, rfl⟩, fun H3 => ⟨(by rw [sizeLine_eq]; show 2 ≤ 16777216; omega), [Value.int T[j].1 t1, Value.int T[j].2 t], .cons ⟨t1, rfl⟩ (.cons ⟨t, rfl⟩ .nil), ⟨_, kF _ _ (ne0 _ _ hg) (ka _ _ hg), rfl, 0, rfl⟩⟩⟩
      rw [upd_ne (ne0 _ _ hg)]
      exact I.hok.fresh hbl
    have gr : ∀ b o, H b = some o → H2 b = some o := fun b o e => g b o (by rw [upd_ne (ne_of_none e hn0)]; exact e)
    refine ⟨.ref h'.objs.size, H2, I3, rfl, q H2 h'.objs.size gr hn0 ⟨cs.map V.ref, g _ _ upd_same, each_keys pairI (ecm.mono fun b y ⟨j, hb, hy⟩ => ?_)⟩⟩
    obtain ⟨vs', ⟨j', y', j1, j2, ev⟩, hH⟩ := qt b (List.mem_of_getElem? hb)
    have eij : j = j' := (List.getElem?_inj (List.getElem?_eq_some_iff.mp hb).1 nd).mp (hb.trans j1.symm)
    subst eij
    have ee : y' = y := Option.some.inj (j2.symm.trans hy)
    rw [ee] at ev
    rw [ev] at hH
    exact .tup hH (.cons (.int y.1) (.cons (.int y.2) .nil))
end
/-- d.items(), a view -/
def tItemsI (td : TE) : TE := fun σ H Q => td σ H fun x G => ∃ (d : Addr) (T : KI), x = .ref d ∧ G d = some (.dK (mpT eI T)) ∧ ∀ p, G p = none → Q (.ref p) (upd G p (DX.itemsO p d))
theorem pe_itemsV {X : Cx} {e : Expr} {td : TE} {ap cp : Pos} (he : PE X e td) (hbase : attributeBase e "items" X.env (eval e X.env) = eval e X.env := by rfl) (hline : (ap.endLine == cp.line) = true := by rfl) :
    PE X (.Call (.Attribute e "items" ap) [] [] cp) (tItemsI td) := ⟨fun pn s τ H Q I h => by
  refine wpAny_Call_method (T := "dict") (id := "dict.items") hbase rfl hline F.plainAttrs_dict F.slot_dict_items F.type_dict_items (thn (he.run pn s τ H _ I h) fun u s1 ⟨x, G, I1, rx, d, T, ex, hd, q⟩ => ?_)
  subst ex
  obtain rfl : u = Value.ref d := rx
  obtain ⟨hz, hs, vs, kv, hdo⟩ := dk_of I1.hok hd
  obtain ⟨o, es, ep, ho, hx, hdat, _⟩ := id hdo
  have raw : s1.heap.DictRaw d es ep := ⟨o, ho, hx, hdat⟩
  refine ⟨raw.typeIs, fun b q => ?_, ?_⟩
  · cases q
    exact ⟨o, ho, hx.2.1⟩
  show wpAny _ _ (callWith cp (.builtin "dict.items") [.ref d] [] []) _ X.xe s1
  refine method_meetsIn F.slot_dict_items F.entry_dict_items rfl (PySem.evalArgs_none ⟨rfl, raw.typeIs, F.args_dict_items_1 _, _, meets_dict_items_raw d hs, ⟨es, ep, raw⟩, ?_⟩)
  exact ⟨.ref s1.heap.objs.size, _, I1.laid (t' := s1.toks) (fun b u e => Heap.get?_push_of_some _ e) (Nat.le_refl _) (DX.itemsO_ok (Heap.get?_push_size _ rfl)), rfl, q _ (I1.hok.fresh (Nat.le_refl _))⟩⟩
end K2P

set_option Elab.async false
set_option linter.all false
set_option maxRecDepth 100000
set_option maxHeartbeats 4000000
set_option autoImplicit false
set_option pp.maxSteps 600
/-! figurehold.tables: _add_row. -/
namespace K2P
open PySem L2 K1D
def top (i : Nat) : Stmt := PySem.Challenge.pw_figurehold_k08_steps_told.main.body.getD i (.Pass ⟨0, 0, 0, 0⟩)
theorem ifY {b : Bool} {A B : Prop} (e : b = true) (h : A) : if b = true then A else B := by rw [if_pos e]; exact h
theorem ifN {b : Bool} {A B : Prop} (e : b = false) (h : B) : if b = true then A else B := by rw [e]; exact h
theorem hu8 {A : Around} {k : Nat} (hr : Room k A) : A.units + 8 < cLine := by have := hr.un; omega
theorem hu1 {A : Around} {k : Nat} (hr : Room k A) : A.units + 1 < cLine := by have := hr.un; omega
theorem same_new {q : Addr} {o : HO} {H : Hp} (h : H q = none) : Same H (upd H q o) := fun a x e => (upd_ne (ne_of_none e h)).trans e
theorem take_snoc {α : Type} {l : List α} {i : Nat} {u : α} (h : l[i]? = some u) : l.take (i + 1) = l.take i ++ [u] := by
  obtain ⟨lt, e⟩ := List.getElem?_eq_some_iff.mp h
  rw [List.take_succ_eq_append_getElem lt, e]
/-- all but what is at d stands -/
def Oth (d : Addr) (H G : Hp) : Prop := ∀ a o, a ≠ d → H a = some o → G a = some o
section
variable {d q : Addr} {H G F : Hp} {o : HO}
theorem Oth.refl : Oth d H H := fun _ _ _ e => e
theorem Oth.trans (h : Oth d H G) (g : Oth d G F) : Oth d H F := fun a o n e => g a o n (h a o n e)
theorem Oth.same (s : Same H G) : Oth d H G := fun a o _ e => s a o e
theorem Oth.put : Oth d H (upd H d o) := fun a u n e => (upd_ne n).trans e
theorem Oth.tups {K : PySem.W.Frag} {kvs : List (Key × V)} (h : Oth d H G) (hd : H d = some (.dK kvs)) : Tups K H G := fun a xs e => h a _ (fun z => by rw [z, hd] at e; cases e) e
end
theorem keyVs_len {K : PySem.W.Frag} {H : Hp} : ∀ {ks : List NestedKey} {vs : List V}, KeyVs K H ks vs → vs.length = ks.length
  | [], _, h => by cases h; rfl
  | _ :: _, _, h => by
    cases h with
    | cons h1 h2 => rw [List.length_cons, List.length_cons, keyVs_len h2]
theorem keyVs_get {K : PySem.W.Frag} {H : Hp} : ∀ {ks : List NestedKey} {vs : List V}, KeyVs K H ks vs → ∀ {i : Nat} {v : V}, vs[i]? = some v → ∃ k, ks[i]? = some k ∧ KeyV K H k v
  | [], _, h, i, v, e => by cases h; simp at e
  | k :: ks, _, h, i, v, e => by
    cases h with
    | @cons _ u _ us h1 h2 =>
      cases i with
      | zero =>
        simp only [List.getElem?_cons_zero, Option.some.injEq] at e
        subst e
        exact ⟨k, rfl, h1⟩
      | succ i =>
        simp only [List.getElem?_cons_succ] at e ⊢
        exact keyVs_get h2 e
theorem kv_pairI {K : PySem.W.Frag} {H : Hp} {y : Int × Int} {v : V} : KeyV K H (pairI y) v ↔ ∃ t : Addr, v = .ref t ∧ H t = some (.tup [.int y.1, .int y.2]) := by
  constructor
  · intro h
    cases h with
    | @tup a xs ks h1 h2 =>
      cases h2 with
      | cons h2 h3 =>
        cases h3 with
        | cons h3 h4 =>
          cases h4
          cases h3
          cases h2
          exact ⟨a, rfl, h1⟩
  · rintro ⟨t, rfl, h⟩
    exact .tup h (.cons (.int _) (.cons (.int _) .nil))
theorem ColsAt.at {K : PySem.W.Frag} {H : Hp} {L : Addr} {C : KI} (h : ColsAt K H L C) : ∃ zs, H L = some (.lst zs) ∧ zs.length = C.length ∧ ∀ (i : Nat) (v : V), zs[i]? = some v → ∃ (y : Int × Int) (t : Addr), C[i]? = some y ∧ v = .ref t ∧ H t = some (.tup [.int y.1, .int y.2]) := by
  obtain ⟨zs, h1, h2⟩ := h
  refine ⟨zs, h1, by rw [keyVs_len h2, List.length_map], fun i v e => ?_⟩
  obtain ⟨k, hk, kv⟩ := keyVs_get h2 e
  rw [List.getElem?_map] at hk
  obtain ⟨y, hy, rfl⟩ := Option.map_eq_some_iff.mp hk
  obtain ⟨t, e1, e2⟩ := kv_pairI.mp kv
  exact ⟨y, t, hy, e1, e2⟩
theorem ColsAt.up {K : PySem.W.Frag} {H G : Hp} {L : Addr} {C : KI} (h : ColsAt K H L C) (s : Same H G) : ColsAt K G L C := by
  obtain ⟨zs, h1, h2⟩ := h
  exact ⟨zs, s _ _ h1, KeyVs.up (Tups.ext s) _ _ h2⟩
theorem ColsAt.oth {K : PySem.W.Frag} {H G : Hp} {L d : Addr} {C : KI} {kvs : List (Key × V)} (h : ColsAt K H L C) (s : Oth d H G) (hd : H d = some (.dK kvs)) : ColsAt K G L C := by
  obtain ⟨zs, h1, h2⟩ := h
  refine ⟨zs, s _ _ (fun z => ?_) h1, KeyVs.up (s.tups hd) _ _ h2⟩
  rw [z, hd] at h1
  cases h1
abbrev sRow : Stmt := top 53
/-- coefficients below 2 ^ a -/
def Bits (a : Nat) (T : KI) : Prop := ∀ x ∈ T, x.2.natAbs < 2 ^ a
def spRow (K : PySem.W.Frag) : Sp := fun vs H Q _ => ∃ (d L : Addr) (k m : Int) (T C : KI) (a b : Nat), vs = [.ref d, .int k, .int m, .ref L] ∧ TabAt H d T ∧ ColsAt K H L C ∧ T.length + C.length < sizeLine ∧ m.natAbs < 2 ^ a ∧ Bits b C ∧ 0 < a ∧ 0 < b ∧ a + b ≤ 1000000 ∧
  ∀ (G : Hp), Oth d H G → TabAt G d (rowT T k m C) → Q .non G
section
variable {P : Program} {w : World} {K : PySem.W.Frag} {mg : Str → Option Value} {base : Heap}
theorem scRow : FnScope ["out", "key", "many", "columns", "other", "much", "both"] ["out", "key", "many", "columns"] (defScope sRow) := ⟨rfl, rfl, rfl, by decide +kernel, rfl, by decide +kernel, by decide +kernel⟩
theorem ok_row {f : Addr} {fd : FuncData} (F : Fun K "_add_row" "_add_row" sRow f fd) : FnOk P w K mg base CX0 1 f fd ["out", "key", "many", "columns"] (spRow K) := by
  refine F.ok scRow (fun vs H Q E h => ?_) (fun cdv A outer s H vs Q E hr h => ?_)
  · obtain ⟨d, L, k, m, T, C, a, b, rfl, _⟩ := h
    rfl
  · obtain ⟨d, L, k, m, T, C, a, b, rfl, hd, hL, hl, ma, cb, a0, b0, ab, go⟩ := h
    refine ⟨_, pss_one (ps_for PassesOwn.never rfl (pi_list (pv 3)) (pg_tup rfl (pgs_cons (pg_name (i := 4) scRow.nd rfl (Or.inl rfl)) (pgs_cons (pg_name (i := 5) scRow.nd rfl (Or.inl rfl)) pgs_nil)))
      (pss_cons (ps_set (i := 6) scRow.nd rfl (Or.inl rfl) (pe_op op_add (pv 1) (pv 4)))
      (pss_one (ps_dput (hu1 hr) (pv 0) (pv 6) (pe_op op_add (pe_dget2 (hu1 hr) (pv 0) (pv 6) pe_int ⟨rfl, rfl, rfl, rfl⟩) (pe_op op_mulW (pv 2) (pv 5))) rfl)))), ?_⟩
    obtain ⟨zs, h1, lz, at_⟩ := hL.at
    have Ld : L ≠ d := fun z => by rw [z, hd.1] at h1; cases h1
    refine ⟨_, rfl, L, rfl, ⟨_, SqL.of h1⟩, ?_⟩
    refine for_it (walk_list (K := K) (a := L) (xs := zs)) (fun i σ G => ∃ u4 u5 u6 : Option V, σ = [some (.ref d), some (.int k), some (.int m), some (.ref L), u4, u5, u6] ∧ Oth d H G ∧ TabAt G d (rowT T k m (C.take i)))
      ⟨_, _, _, rfl, Oth.refl, hd⟩ (fun i σ G _ ⟨_, _, _, _, h, _⟩ => SqL.of (h _ _ Ld h1)) (fun i v σ G G' hi ⟨u4, u5, u6, hσ, oG, tG⟩ ⟨e, hv⟩ => ?_) (fun σ G ⟨u4, u5, u6, hσ, oG, tG⟩ => ?_)
    · subst hσ e
      obtain ⟨y, t, hy, rfl, ht⟩ := at_ i v hv
      have td : t ≠ d := fun z => by rw [z, hd.1] at ht; cases ht
      have ym := List.mem_of_getElem? hy
      have lc : i < C.length := (List.getElem?_eq_some_iff.mp hy).1
      have lt := len_rowT (k := k) (m := m) (C := C.take i) (T := T)
      rw [List.length_take] at lt
      have g1 := DGet.k (k := eI (k + y.1)) tG.1
      refine ⟨t, _, rfl, SqT.of (oG _ _ td ht), rfl, _, _, rfl, _, _, rfl, rfl, ?_⟩
      refine ⟨_, rfl, _, rfl, _, _, rfl, rfl, ?_⟩
      refine ⟨_, rfl, d, rfl, .inl ⟨_, .inl tG.1⟩, _, rfl, _, g1, ?_⟩
      rw [getD_mpT eI_inj]
      refine ⟨_, rfl, _, rfl, _, _, rfl, rfl, wide_mul ma (cb y ym) a0 b0 ab, _, _, rfl, rfl, ?_⟩
      refine ⟨_, rfl, _, rfl, d, _, rfl, DPut.k (k := eI (k + y.1)) tG.1 (by rw [len_mpT]; omega), ?_⟩
      rw [putK_mpT eI_inj]
      refine ⟨_, _, _, rfl, oG.trans Oth.put, ?_⟩
      rw [rowT_take hy]
      exact ⟨upd_same, nodup_addT tG.2 _ _⟩
    · subst hσ
      rw [lz, List.take_length] at tG
      exact go G oG tG
end
end K2P

set_option Elab.async false
set_option linter.all false
set_option maxRecDepth 100000
set_option maxHeartbeats 4000000
set_option autoImplicit false
set_option pp.maxSteps 600
/-! figurehold.tables: times. -/
namespace K2P
open PySem L2 K1D
abbrev sTimes : Stmt := top 51
/-- d is locked, all else stands -/
def LkT (d : Addr) (od : Obj) (u : HO) (H F : Hp) : Prop := F d = some (.frz od u) ∧ ∀ a o, a ≠ d → H a = some o → F a = some o
theorem LkT.start {d : Addr} {od : Obj} {u : HO} {H : Hp} : LkT d od u H (upd H d (.frz od u)) := ⟨upd_same, fun a o ne e => (upd_ne ne).trans e⟩
theorem LkT.new {d q : Addr} {od : Obj} {u o : HO} {H F : Hp} (h : LkT d od u H F) (n : F q = none) : LkT d od u H (upd F q o) :=
  ⟨(upd_ne (ne_of_none h.1 n)).trans h.1, fun a x ne e => (upd_ne (ne_of_none (h.2 a x ne e) n)).trans (h.2 a x ne e)⟩
theorem LkT.set {d q : Addr} {od : Obj} {u o : HO} {H F : Hp} (h : LkT d od u H F) (nq : q ≠ d) (n : H q = none) : LkT d od u H (upd F q o) :=
  ⟨(upd_ne (Ne.symm nq)).trans h.1, fun a x ne e => (upd_ne (ne_of_none e n)).trans (h.2 a x ne e)⟩
theorem LkT.done {d : Addr} {od : Obj} {u : HO} {H F : Hp} (h : LkT d od u H F) (hd : H d = some u) : Same H (upd F d u) := fun a o e => by
  by_cases z : a = d
  · subst z
    rw [hd] at e
    rw [upd_same]
    exact e
  · rw [upd_ne z]
    exact h.2 a o z e
theorem nz_snoc {T : KI} {i : Nat} {y : Int × Int} (h : T[i]? = some y) : nzT (T.take (i + 1)) = nzT (T.take i) ++ (if y.2 ≠ 0 then [y] else []) := by
  unfold nzT
  rw [take_snoc h, List.filter_append]
  congr 1
  by_cases e : y.2 = 0
  · simp [e]
  · simp [e]
theorem put_new {T : KI} {k c : Int} (h : k ∉ T.map (·.1)) : putT T k c = T ++ [(k, c)] := by
  unfold putT
  rw [valT_none.mpr h]
  rfl
theorem keys_nz_take {T : KI} (nd : (T.map (·.1)).Nodup) {i : Nat} {y : Int × Int} (h : T[i]? = some y) : y.1 ∉ (nzT (T.take i)).map (·.1) := fun q => by
  obtain ⟨x, hx, ex⟩ := List.mem_map.mp q
  have hx2 := (List.mem_filter.mp hx).1
  obtain ⟨j, hj⟩ := List.mem_iff_getElem?.mp hx2
  rw [List.getElem?_take] at hj
  split at hj
  · rename_i lj
    have e1 : (T.map (·.1))[j]? = some y.1 := by rw [List.getElem?_map, hj]; exact congrArg some ex
    have e2 : (T.map (·.1))[i]? = some y.1 := by rw [List.getElem?_map, h]; rfl
    have := (List.getElem?_inj (List.getElem?_eq_some_iff.mp e1).1 nd).mp (e1.trans e2.symm)
    omega
  · cases hj
/-- {key: many for key, many in d.items() if many != 0}, d locked -/
theorem nz_read {K : PySem.W.Frag} {σ : L2.St} {F : Hp} {d : Addr} {od : Obj} {T : KI} {o ik im : Nat} {Q : VK} (hd : F d = some (.frz od (.dK (mpT eI T)))) (nd : (T.map (·.1)).Nodup) (lt : T.length < sizeLine) (hv : σ[o]? = some (some (.ref d)))
    (hw : ∀ k m, wipe (((wipe σ [ik, im]).set ik (some k)).set im (some m)) [ik, im] = wipe σ [ik, im]) (hk : ∀ k m, (((wipe σ [ik, im]).set ik (some k)).set im (some m))[ik]? = some (some k)) (hm : ∀ k m, (((wipe σ [ik, im]).set ik (some k)).set im (some m))[im]? = some (some m))
    (go : ∀ D G, F D = none → LkT d od (.dK (mpT eI T)) F G → G D = some (.dK (mpT eI (nzT T))) → Q (.ref D) G) :
    (tDc (iItems (tVar o)) (gTup K 2 (gCons (gName ik) (gCons (gName im) gNil))) (tTest (tOp rNe (tVar im) (tC (.int 0)))) (tVar ik) (tVar im) [ik, im]) σ F Q := by
  refine ⟨_, hv, d, od, _, rfl, hd, fun D nD => ?_⟩
  have Dd : D ≠ d := fun z => by rw [z, hd] at nD; cases nD
  have l0 : LkT d od (.dK (mpT eI T)) F F := ⟨hd, fun _ _ _ e => e⟩
  refine blk_n (o := fun D => .dK []) (n := (mpT eI T).length) (fun (i : Nat) (G : Hp) => LkT d od (.dK (mpT eI T)) F G ∧ G D = some (.dK (mpT eI (nzT (T.take i)))))
    ⟨l0.new nD, upd_same⟩ (fun i G hi ⟨l, _⟩ => ⟨l.1, hi⟩) (fun G ⟨l, _⟩ => ⟨l.1, Nat.le_refl _⟩) (fun i G x G' hi ⟨l, h1⟩ hy => ?_) (fun G ⟨l, h1⟩ => ?_)
  · obtain ⟨t, k, v, hkv, rfl, nt, rfl⟩ := hy
    obtain ⟨y, hy, rfl, rfl⟩ := at_mpT hkv
    have l2 := l.new (o := .tup [kV (eI y.1), .int y.2]) nt
    have ht : upd G t (.tup [kV (eI y.1), .int y.2]) t = some (.tup [kV (eI y.1), .int y.2]) := upd_same
    have h2 : upd G t (.tup [kV (eI y.1), .int y.2]) D = some (.dK (mpT eI (nzT (T.take i)))) := (upd_ne (ne_of_none h1 nt)).trans h1
    generalize upd G t (.tup [kV (eI y.1), .int y.2]) = G2 at l2 ht h2 ⊢
    have ns := nz_snoc hy
    have ll : (nzT (T.take i)).length ≤ T.length := Nat.le_trans (List.length_filter_le _ _) (by rw [List.length_take]; omega)
    refine ⟨t, _, rfl, SqT.of ht, rfl, _, _, rfl, _, _, rfl, rfl, hw _ _, _, hm _ _, rfl, _, rfl, ?_⟩
    by_cases y0 : y.2 = 0
    · refine ifN (by rw [y0]; rfl) ⟨l2, ?_⟩
      rw [ns, if_neg (by simp [y0]), List.append_nil]
      exact h2
    · refine ifY (by simp [y0]) ⟨_, hk _ _, _, hm _ _, _, eI y.1, rfl, h2, by rw [len_mpT]; omega, l2.set Dd nD, ?_⟩
      rw [upd_same, ns, if_pos y0, putK_mpT eI_inj, put_new (keys_nz_take nd hy)]
  · rw [len_mpT, List.take_length] at h1
    exact go D G nD l h1
/-- R is the product of P and C -/
structure ProdR (P C R : KI) : Prop where
  nz : ∀ x ∈ R, x.2 ≠ 0
  tot : ∀ j, K2P.tot R j = K2P.tot (prodL (· + ·) P C) j
  len : R.length ≤ P.length * C.length
  keys : ∀ x ∈ R, ∃ y ∈ P, ∃ z ∈ C, x.1 = y.1 + z.1
theorem ProdR.comm {P C R : KI} (h : ProdR P C R) : ProdR C P R :=
  ⟨h.nz, fun j => (h.tot j).trans (tot_prod_comm (· + ·) (fun a b => Int.add_comm a b) j C P), by rw [Nat.mul_comm]; exact h.len, fun x hx => by
    obtain ⟨y, hy, z, hz, e⟩ := h.keys x hx
    exact ⟨z, hz, y, hy, by omega⟩⟩
theorem keys_foldl {C : KI} : ∀ {P T : KI} {j : Int}, j ∈ (P.foldl (fun T x => rowT T x.1 x.2 C) T).map (·.1) → j ∈ T.map (·.1) ∨ ∃ y ∈ P, ∃ z ∈ C, j = y.1 + z.1
  | [], _, _, h => .inl h
  | x :: P, T, j, h => by
    rw [List.foldl_cons] at h
    rcases keys_foldl (P := P) h with h | ⟨y, hy, z, hz, e⟩
    · rcases keys_rowT h with h | ⟨z, hz, e⟩
      · exact .inl h
      · exact .inr ⟨x, List.mem_cons_self, z, hz, e⟩
    · exact .inr ⟨y, List.mem_cons_of_mem _ hy, z, hz, e⟩
theorem tot_nzT (T : KI) (k : Int) : tot (nzT T) k = tot T k := by
  induction T with
  | nil => rfl
  | cons x T ih =>
    show tot (List.filter _ (x :: T)) k = _
    rw [List.filter_cons]
    by_cases z : x.2 = 0
    · rw [if_neg (by simp [z])]
      show tot (nzT T) k = (if x.1 = k then x.2 else 0) + tot T k
      rw [ih, z]
      split <;> omega
    · rw [if_pos (by simp [z])]
      show (if x.1 = k then x.2 else 0) + tot (nzT T) k = _ + tot T k
      rw [ih]
theorem prodR_nz (P C : KI) : ProdR P C (nzT (prodT P C)) :=
  ⟨fun x hx => of_decide_eq_true (List.mem_filter.mp hx).2, fun j => (tot_nzT _ j).trans (tot_prodT P C j), Nat.le_trans (List.length_filter_le _ _) (len_prodT P C), fun x hx => by
    rcases keys_foldl (C := C) (P := P) (T := []) (j := x.1) (List.mem_map.mpr ⟨x, (List.mem_filter.mp hx).1, rfl⟩) with h | h
    · cases h
    · exact h⟩
theorem cols_of {K : PySem.W.Frag} {H : Hp} : ∀ {C : KI} {ts : List Addr}, Paired (fun (t : Addr) (q : Key × V) => H t = some (.tup [kV q.1, q.2])) ts (mpT eI C) → KeyVs K H (C.map pairI) (ts.map V.ref)
  | [], _, h => by cases h; exact .nil
  | y :: C, _, h => by
    cases h with
    | cons h1 h2 => exact .cons (kv_pairI.mpr ⟨_, rfl, h1⟩) (cols_of h2)
structure RowTxt (P : Program) (w : World) (K : PySem.W.Frag) (mg : Str → Option Value) (base : Heap) (fR : Addr) (dR : FuncData) : Prop where
  ok : FnOk P w K mg base CX0 1 fR dR ["out", "key", "many", "columns"] (spRow K)
  b : Binds K dR ["out", "key", "many", "columns"] []
  g : mg "_add_row" = some (.ref fR)
  k : PySem.W.keepIn K (.ref fR) = true
  len : mg "len" = none
  list : mg "list" = none
def spTimes0 : Sp := fun vs H Q _ => ∃ (d e : Addr) (P C : KI) (a b : Nat), vs = [.ref d, .ref e] ∧ TabAt H d P ∧ TabAt H e C ∧ P.length ≤ C.length ∧ P.length * C.length < sizeLine ∧ C.length < sizeLine ∧ Bits a P ∧ Bits b C ∧ 0 < a ∧ 0 < b ∧ a + b ≤ 1000000 ∧
  ∀ (r : Addr) (R : KI) (G : Hp), Same H G → H r = none → TabAt G r R → ProdR P C R → Q (.ref r) G
def spTimes : Sp := fun vs H Q _ => ∃ (d e : Addr) (P C : KI) (a b : Nat), vs = [.ref d, .ref e] ∧ TabAt H d P ∧ TabAt H e C ∧ P.length * C.length < sizeLine ∧ P.length < sizeLine ∧ C.length < sizeLine ∧ Bits a P ∧ Bits b C ∧ 0 < a ∧ 0 < b ∧ a + b ≤ 1000000 ∧
  ∀ (r : Addr) (R : KI) (G : Hp), Same H G → H r = none → TabAt G r R → ProdR P C R → Q (.ref r) G
section
variable {P : Program} {w : World} {K : PySem.W.Frag} {mg : Str → Option Value} {base : Heap} {fR : Addr} {dR : FuncData}
theorem scTimes : FnScope ["p", "q", "out", "columns", "key", "many"] ["p", "q"] (defScope sTimes) := ⟨rfl, rfl, rfl, by decide +kernel, rfl, by decide +kernel, by decide +kernel⟩
theorem ok_times0 {f : Addr} {fd : FuncData} (F : Fun K "times" "times" sTimes f fd) (T : RowTxt P w K mg base fR dR) : FnOk P w K mg base CX0 2 f fd ["p", "q"] spTimes0 := by
  refine F.ok scTimes (fun vs H Q E h => ?_) (fun cdv A outer s H vs Q E hr h => ?_)
  · obtain ⟨d, e, P1, C, a, b, rfl, _⟩ := h
    rfl
  · obtain ⟨d, e, P1, C, a, b, rfl, hd, he, le, hl, hc, pa, cb, a0, b0, ab, go⟩ := h
    refine ⟨_, pss_cons (ps_if (pt_cmpR op_gt (pe_callB call_lenD (by rfl) T.len PySem.boot_len (pa_cons (pv 0) pa_nil)) (pe_callB call_lenD (by rfl) T.len PySem.boot_len (pa_cons (pv 1) pa_nil)) (nomark _)) pss_never pss_nil)
      (pss_cons (ps_set (i := 2) scTimes.nd rfl (Or.inl rfl) pe_dnewK)
      (pss_cons (ps_set (i := 3) scTimes.nd rfl (Or.inl rfl) (LiI.pe_listItems rfl (pv 1) (by rfl) T.list (by decide +kernel)))
      (pss_cons (ps_lock (ps_for PassesOwn.never rfl (pi_items (pv 0)) (pg_tup rfl (pgs_cons (pg_name (i := 4) scTimes.nd rfl (Or.inl rfl)) (pgs_cons (pg_name (i := 5) scTimes.nd rfl (Or.inl rfl)) pgs_nil))) (pss_one (ps_expr (pe_call T.ok (hr.mono (by decide)) rfl T.g T.k T.b .nil pass0 (pa_cons (pv 2) (pa_cons (pv 4) (pa_cons (pv 5) (pa_cons (pv 3) pa_nil)))))))))
      (pss_one (ps_lock (ps_ret (pe_dc (own := [("key", 4), ("many", 5)]) (g := gTup K 2 (gCons (gName 4) (gCons (gName 5) gNil))) (tt := tTest (tOp rNe (tVar 5) (tC (.int 0)))) (tk := tVar 4) (tv := tVar 5) rfl scTimes.nd (pi_items (pv 2))
        (blkOk_by (own := [("key", 4), ("many", 5)]) (N := ["p", "q", "out", "columns", "key", "many"]) (sc := defScope sTimes) (by decide +kernel))
        (fun _ _ _ _ _ => pg_tup rfl (pgs_cons (pg_name (i := 4) scTimes.nd rfl (Or.inl rfl)) (pgs_cons (pg_name (i := 5) scTimes.nd rfl (Or.inl rfl)) pgs_nil)))
        (fun _ _ _ _ _ => pts_one (pt_cmpR op_ne (pv 5) pe_int (nomark _))) (fun _ _ _ _ _ => pv 4) (fun _ _ _ _ _ => pv 5)))))))), ?_⟩
    refine ⟨_, rfl, d, _, rfl, hd.1, _, rfl, e, _, rfl, he.1, _, _, rfl, rfl, _, rfl, ifN (decide_eq_false (by rw [len_mpT, len_mpT]; omega)) ?_⟩
    intro O nO
    have s1 : Same H (upd H O (.dK [])) := same_new nO
    have hO1 : upd H O (.dK []) O = some (.dK []) := upd_same
    generalize upd H O (.dK []) = H1 at s1 hO1 ⊢
    have dO : d ≠ O := fun z => by rw [← z, hd.1] at nO; cases nO
    refine ⟨_, rfl, e, _, rfl, s1 _ _ he.1, fun H2 L ts s2 nL nts pts hL hpt => ?_⟩
    have c2 : ColsAt K H2 L C := ⟨_, hL, cols_of hpt⟩
    have s12 : Same H H2 := s1.trans s2
    have hd2 := s12 _ _ hd.1
    have hO2 := s2 _ _ hO1
    refine ⟨d, _, hd2, True.intro, fun od => ?_⟩
    have l0 : LkT d od (.dK (mpT eI P1)) H (upd H2 d (.frz od (.dK (mpT eI P1)))) := ⟨upd_same, fun x o ne q => (upd_ne ne).trans (s12 x o q)⟩
    have c3 : ColsAt K (upd H2 d (.frz od (.dK (mpT eI P1)))) L C := by
      obtain ⟨zs, z1, z2⟩ := c2
      refine ⟨zs, (upd_ne (fun z => by rw [z, hd2] at z1; cases z1)).trans z1, KeyVs.up (fun x xs q => (upd_ne (fun z => by rw [z, hd2] at q; cases q)).trans q) _ _ z2⟩
    have t3 : TabAt (upd H2 d (.frz od (.dK (mpT eI P1)))) O [] := ⟨(upd_ne (Ne.symm dO)).trans hO2, List.nodup_nil⟩
    generalize upd H2 d (.frz od (.dK (mpT eI P1))) = F0 at l0 c3 t3 ⊢
    refine ⟨_, rfl, d, od, _, rfl, l0.1, for_n (n := (mpT eI P1).length) (fun (i : Nat) (σ : L2.St) (G : Hp) => ∃ u4 u5 : Option V, σ = [some (.ref d), some (.ref e), some (.ref O), some (.ref L), u4, u5] ∧ Oth O F0 G ∧ TabAt G O (prodT (P1.take i) C))
      ⟨_, _, rfl, Oth.refl, t3⟩ (fun i σ G hi ⟨_, _, _, o, _⟩ => ⟨o _ _ dO l0.1, hi⟩) (fun σ G ⟨_, _, _, o, _⟩ => ⟨o _ _ dO l0.1, Nat.le_refl _⟩) (fun i σ G x G' hi ⟨u4, u5, hσ, o, tG⟩ hy => ?_) (fun σ G ⟨u4, u5, hσ, o, tG⟩ => ?_)⟩
    · subst hσ
      obtain ⟨t, k, v, hkv, rfl, nt, rfl⟩ := hy
      obtain ⟨y, hy, rfl, rfl⟩ := at_mpT hkv
      have ip : i < P1.length := (List.getElem?_eq_some_iff.mp hy).1
      have st : Same G (upd G t (.tup [kV (eI y.1), .int y.2])) := same_new nt
      have ht : upd G t (.tup [kV (eI y.1), .int y.2]) t = some (.tup [kV (eI y.1), .int y.2]) := upd_same
      generalize upd G t (.tup [kV (eI y.1), .int y.2]) = G2 at st ht ⊢
      have o2 := o.trans (Oth.same st)
      have lp := len_prodT (P1.take i) C
      rw [List.length_take, Nat.min_eq_left (by omega)] at lp
      have lq : (i + 1) * C.length ≤ P1.length * C.length := Nat.mul_le_mul_right _ ip
      rw [Nat.succ_mul] at lq
      refine ⟨t, _, rfl, SqT.of ht, rfl, _, _, rfl, _, _, rfl, rfl, ?_⟩
      refine ⟨_, rfl, _, rfl, _, rfl, _, rfl, O, L, y.1, y.2, prodT (P1.take i) C, C, a, b, rfl, tG.up st, c3.oth o2 t3.1, by omega, pa y (List.mem_of_getElem? hy), cb, a0, b0, ab, fun G3 o3 t4 => ?_⟩
      refine ⟨_, _, rfl, o2.trans o3, ?_⟩
      rw [prodT_take hy]
      exact t4
    · subst hσ
      rw [len_mpT, List.take_length] at tG
      refine ⟨o _ _ dO l0.1, ?_⟩
      have s3 : Same H (upd G d (.dK (mpT eI P1))) := fun x ob q => by
        by_cases z : x = d
        · rw [z] at q ⊢
          rw [hd.1] at q
          rw [upd_same]
          exact q
        · exact (upd_ne z).trans (o _ _ (fun w => by rw [w, nO] at q; cases q) (l0.2 _ _ z q))
      have t5 : TabAt (upd G d (.dK (mpT eI P1))) O (prodT P1 C) := ⟨(upd_ne (Ne.symm dO)).trans tG.1, tG.2⟩
      generalize upd G d (.dK (mpT eI P1)) = G5 at s3 t5 ⊢
      refine ⟨O, _, t5.1, True.intro, fun oe => ?_⟩
      have lp := len_prodT P1 C
      refine nz_read upd_same t5.2 (by omega) rfl (fun _ _ => rfl) (fun _ _ => rfl) (fun _ _ => rfl) (fun D G6 nD l6 hD => ?_)
      have DO : D ≠ O := fun z => by rw [z, upd_same] at nD; cases nD
      rw [upd_ne DO] at nD
      refine ⟨l6.1, go D (nzT (prodT P1 C)) _ (fun x ob q => ?_) ?_ ⟨(upd_ne DO).trans hD, nodup_nzT t5.2⟩ (prodR_nz P1 C)⟩
      · have xO : x ≠ O := fun w => by rw [w, nO] at q; cases q
        exact (upd_ne xO).trans (l6.2 _ _ xO ((upd_ne xO).trans (s3 _ _ q)))
      · cases q : H D with
        | none => rfl
        | some ob => rw [s3 _ _ q] at nD; cases nD
structure TimesTxt (P : Program) (w : World) (K : PySem.W.Frag) (mg : Str → Option Value) (base : Heap) (fT : Addr) (dT : FuncData) : Prop where
  ok : FnOk P w K mg base CX0 2 fT dT ["p", "q"] spTimes0
  b : Binds K dT ["p", "q"] []
  g : mg "times_tables" = some (.ref fT)
  k : PySem.W.keepIn K (.ref fT) = true
def spTimesS : Sp := fun vs H Q _ => ∃ (d e : Addr) (P C : KI) (a b : Nat), vs = [.ref d, .ref e] ∧ TabAt H d P ∧ TabAt H e C ∧ C.length < P.length ∧ P.length * C.length < sizeLine ∧ P.length < sizeLine ∧ Bits a P ∧ Bits b C ∧ 0 < a ∧ 0 < b ∧ a + b ≤ 1000000 ∧
  ∀ (r : Addr) (R : KI) (G : Hp), Same H G → H r = none → TabAt G r R → ProdR P C R → Q (.ref r) G
theorem ok_timesS {f : Addr} {fd : FuncData} (F : Fun K "times" "times" sTimes f fd) (ln : mg "len" = none) (U : TimesTxt P w K mg base f fd) : FnOk P w K mg base CX0 3 f fd ["p", "q"] spTimesS := by
  refine F.ok scTimes (fun vs H Q E h => ?_) (fun cdv A outer s H vs Q E hr h => ?_)
  · obtain ⟨d, e, P1, C, a, b, rfl, _⟩ := h
    rfl
  · obtain ⟨d, e, P1, C, a, b, rfl, hd, he, lt, hl, hp, pa, cb, a0, b0, ab, go⟩ := h
    refine ⟨_, pss_cons (ps_if (pt_cmpR op_gt (pe_callB call_lenD (by rfl) ln PySem.boot_len (pa_cons (pv 0) pa_nil)) (pe_callB call_lenD (by rfl) ln PySem.boot_len (pa_cons (pv 1) pa_nil)) (nomark _))
      (pss_one (ps_ret (pe_call U.ok hr rfl U.g U.k U.b .nil pass0 (pa_cons (pv 1) (pa_cons (pv 0) pa_nil))))) pss_nil) pss_never, ?_⟩
    refine ⟨_, rfl, d, _, rfl, hd.1, _, rfl, e, _, rfl, he.1, _, _, rfl, rfl, _, rfl, ifY (decide_eq_true (by rw [len_mpT, len_mpT]; omega)) ?_⟩
    exact ⟨_, rfl, _, rfl, e, d, C, P1, b, a, rfl, he, hd, by omega, by rw [Nat.mul_comm]; exact hl, hp, cb, pa, b0, a0, by omega, fun r R G s n t q => go r R G s n t q.comm⟩
theorem fn_or {CX : CXT} {k : Nat} {f : Addr} {fd : FuncData} {ps : List Str} {sp1 sp2 : Sp} (h1 : FnOk P w K mg base CX k f fd ps sp1) (h2 : FnOk P w K mg base CX k f fd ps sp2) : FnOk P w K mg base CX k f fd ps (fun vs H Q E => sp1 vs H Q E ∨ sp2 vs H Q E) :=
  ⟨fun vs H Q E q => q.elim (h1.len vs H Q E) (h2.len vs H Q E), fun A outer s H args us vs Q E hr e0 hb r q => q.elim (h1.run A outer s H args us vs Q E hr e0 hb r) (h2.run A outer s H args us vs Q E hr e0 hb r)⟩
theorem fn_up {CX : CXT} {j k : Nat} {f : Addr} {fd : FuncData} {ps : List Str} {sp : Sp} (h : FnOk P w K mg base CX j f fd ps sp) (le : j ≤ k) : FnOk P w K mg base CX k f fd ps sp :=
  ⟨h.len, fun A outer s H args us vs Q E hr e0 hb r q => h.run A outer s H args us vs Q E (hr.mono le) e0 hb r q⟩
theorem fn_imp {CX : CXT} {k : Nat} {f : Addr} {fd : FuncData} {ps : List Str} {sp sp' : Sp} (h : FnOk P w K mg base CX k f fd ps sp) (i : ∀ vs H Q E, sp' vs H Q E → sp vs H Q E) : FnOk P w K mg base CX k f fd ps sp' :=
  ⟨fun vs H Q E q => h.len vs H Q E (i _ _ _ _ q), fun A outer s H args us vs Q E hr e0 hb r q => h.run A outer s H args us vs Q E hr e0 hb r (i _ _ _ _ q)⟩
theorem ok_times {f : Addr} {fd : FuncData} (F : Fun K "times" "times" sTimes f fd) (T : RowTxt P w K mg base fR dR) (bT : Binds K fd ["p", "q"] []) (gT : mg "times_tables" = some (.ref f)) (kT : PySem.W.keepIn K (.ref f) = true) : FnOk P w K mg base CX0 3 f fd ["p", "q"] spTimes := by
  have h0 := ok_times0 F T
  refine fn_imp (fn_or (fn_up h0 (by decide)) (ok_timesS F T.len ⟨h0, bT, gT, kT⟩)) fun vs H Q E ⟨d, e, P1, C, a, b, ev, hd, he, hl, hp, hc, pa, cb, a0, b0, ab, go⟩ => ?_
  by_cases le : P1.length ≤ C.length
  · exact .inl ⟨d, e, P1, C, a, b, ev, hd, he, le, hl, hc, pa, cb, a0, b0, ab, go⟩
  · exact .inr ⟨d, e, P1, C, a, b, ev, hd, he, by omega, hl, hp, pa, cb, a0, b0, ab, go⟩
end
end K2P

set_option Elab.async false
set_option linter.all false
set_option maxRecDepth 100000
set_option maxHeartbeats 4000000
/-! name = {k: v for ..} on one line (keys ints or texts). Speaks of no program. -/
namespace L2
open PySem PySem.Spec PyProof.Rows
section
variable {X : Cx}
theorem ps_setDc {i : Nat} {y : Str} {py : Pos} {kx vx tg iter : Expr} {ifs : List Expr} {scope : Scope} {own : List (Str × Nat)} {pos sp : Pos} {wi : TI} {g : TG} {tt : TT} {tk tv : TE} (hc : X.calm = true) (hN : X.N.Nodup) (hy : X.N[i]? = some y) (loc : X.env.scope.names.lookup y = some .local)
    (sw : swapsWith (.DictComp kx vx [⟨tg, iter, ifs, 0⟩] scope pos) (some (.Name y py)) sp.line X.env = pure true) (hi : PI X tg iter wi) (ok : BlkOk X.N X.env.scope scope own)
    (hg : ∀ (s : Shared) (H : Hp) (C : Addr) (cl : List (Str × Addr)) (fp : List Addr), PG (X.blk s H scope (compEnvC scope cl C X.env) fp) tg g)
    (ht : ∀ (s : Shared) (H : Hp) (C : Addr) (cl : List (Str × Addr)) (fp : List Addr), PTs (X.blk s H scope (compEnvC scope cl C X.env) fp) ifs tt)
    (hk : ∀ (s : Shared) (H : Hp) (C : Addr) (cl : List (Str × Addr)) (fp : List Addr), PE (X.blk s H scope (compEnvC scope cl C X.env) fp) kx tk)
    (hv : ∀ (s : Shared) (H : Hp) (C : Addr) (cl : List (Str × Addr)) (fp : List Addr), PE (X.blk s H scope (compEnvC scope cl C X.env) fp) vx tv) (hs : ∀ x, foldedSetIterable iter X.env x = pure x := by intro _; rfl) :
    PS X (.Assign [.Name y py] (.DictComp kx vx [⟨tg, iter, ifs, 0⟩] scope pos) sp) (tAsg (tDc wi g tt tk tv (own.map (·.2))) (gName i)) := ⟨fun pn s τ H D I h => by
  rw [exec_Assign_Name_used _ _ _ _ sw]
  refine wpAny_bind (wpAny_standAt (wpAny_bind ?_))
  have h' : tDc wi g tt tk tv (own.map (·.2)) τ H (fun x G => gName i x τ G D.nx) := h
  show wpAny _ X.A (do let _ ← comprehension (.DictComp kx vx [⟨tg, iter, ifs, 0⟩] scope pos) scope X.env (firstIterPos [⟨tg, iter, ifs, 0⟩] pos) newDict false (eval iter X.env) (some (assign (.Name y py) X.env))) _ _ s
  refine wpAny_bind (thn (dc_core (Qf := fun _ s' => SP X pn D .next s') hc hN I hi ok hg ht hk hv hs h' fun L C s' m G I' q hn ⟨f0, f1, f2, f3, f4, f5⟩ => ?_) fun _ s' hq => wpAny_pure (wpAny_pure hq))
  show wpAny _ _ (assign (.Name y py) X.env (.ref L)) _ _ _
  refine wpAny_assign_Name (store_ok2 (v := V.ref L) I' hN hy (.inl loc) rfl (fun s2 I2 ⟨a, same, ha⟩ => ?_) (.inr loc))
  have ne : C ≠ a := ha.elim (fun z => by rw [z]; exact f1) fun z q => f4 y a z q.symm
  exact ⟨m, hn.sameBut same ne, fun h3 sm3 => ⟨_, G, I2.turned (t' := s2.toks) (fun b o hb e => (sm3.2 b hb).trans e) f0 f1 f3 f4 f5, q⟩⟩⟩
end
end L2

set_option Elab.async false
set_option linter.all false
set_option maxRecDepth 100000
set_option maxHeartbeats 4000000
set_option autoImplicit false
set_option exponentiation.threshold 1000
/-! Polynomials as they are written down; tables that stand for them; their values at whole numbers. Maths. -/
namespace CN
open PySem L2 K1D K2P
theorem tot_mem {l : KI} : (l.map (·.1)).Nodup → ∀ {k c : Int}, (k, c) ∈ l → tot l k = c := by
  induction l with
  | nil => intro _ k c h; exact nomatch h
  | cons x l ih =>
    intro nd k c h
    have nd' := List.nodup_cons.mp nd
    show (if x.1 = k then x.2 else 0) + tot l k = c
    rcases List.mem_cons.mp h with e | h
    · rw [← e, if_pos rfl, tot_none fun y hy q => nd'.1 (List.mem_map.mpr ⟨y, hy, by rw [q, ← e]⟩), Int.add_zero]
    · rw [if_neg fun q => nd'.1 (List.mem_map.mpr ⟨_, h, q.symm⟩), ih nd'.2 h, Int.zero_add]
theorem tot_keyA {l : KI} {k : Int} (h : tot l k ≠ 0) : k ∈ l.map (·.1) := Classical.byContradiction fun n => h (tot_none fun x hx e => n (List.mem_map.mpr ⟨x, hx, e⟩))
theorem nodup_sub {α : Type} [DecidableEq α] : ∀ {a b : List α}, a.Nodup → (∀ x ∈ a, x ∈ b) → a.length ≤ b.length
  | [], _, _, _ => Nat.zero_le _
  | x :: a, b, nd, h => by
    have nd' := List.nodup_cons.mp nd
    have hx := h x List.mem_cons_self
    have := nodup_sub (a := a) (b := b.erase x) nd'.2 fun y hy => by
      have : y ≠ x := fun e => nd'.1 (by rw [← e]; exact hy)
      exact (List.mem_erase_of_ne this).mpr (h y (List.mem_cons_of_mem _ hy))
    rw [List.length_erase_of_mem hx] at this
    have := List.length_pos_of_mem hx
    rw [List.length_cons]
    omega
theorem nd_one {α : Type} (x : α) : [x].Nodup := List.nodup_cons.mpr ⟨(fun z => (nomatch z)), List.nodup_nil⟩
inductive Px where
  | num (k : Int) | var (i : Nat) | add (a b : Px) | sub (a b : Px) | mul (a b : Px) | scl (a : Px) (k : Int)
def radix : Nat := 20011
def negT (T : KI) : KI := T.map fun x => (x.1, x.2 * -1)
/-- the contributions to a table -/
def tabX : Px → KI
  | .num k => [(0, k)]
  | .var i => [((radix ^ i : Nat), 1)]
  | .add a b => tabX a ++ tabX b
  | .sub a b => tabX a ++ negT (tabX b)
  | .mul a b => prodL (· + ·) (tabX a) (tabX b)
  | .scl a k => (tabX a).map fun x => (x.1, x.2 * k)
/-- the value at whole numbers -/
def evX (s : Nat → Int) : Px → Int
  | .num k => k
  | .var i => s i
  | .add a b => evX s a + evX s b
  | .sub a b => evX s a - evX s b
  | .mul a b => evX s a * evX s b
  | .scl a k => evX s a * k
/-- how many contributions -/
def cnt : Px → Nat
  | .num _ => 1
  | .var _ => 1
  | .add a b => cnt a + cnt b
  | .sub a b => cnt a + cnt b
  | .mul a b => cnt a * cnt b
  | .scl a _ => cnt a
/-- the sum of all sizes -/
def norm : Px → Nat
  | .num k => k.natAbs
  | .var _ => 1
  | .add a b => norm a + norm b
  | .sub a b => norm a + norm b
  | .mul a b => norm a * norm b
  | .scl a k => norm a * k.natAbs
/-- T is a table of e -/
structure Rep (T : KI) (e : Px) : Prop where
  nz : ∀ x ∈ T, x.2 ≠ 0
  nd : (T.map (·.1)).Nodup
  tot : ∀ j, K2P.tot T j = K2P.tot (tabX e) j
/-! ### sums of sizes -/
def sumA : KI → Nat
  | [] => 0
  | x :: T => x.2.natAbs + sumA T
theorem sumA_app : ∀ a b : KI, sumA (a ++ b) = sumA a + sumA b
  | [], b => (Nat.zero_add _).symm
  | x :: a, b => by
    show x.2.natAbs + sumA (a ++ b) = x.2.natAbs + sumA a + sumA b
    rw [sumA_app a b, Nat.add_assoc]
theorem sumA_scale (k : Int) : ∀ T : KI, sumA (T.map fun x => (x.1, x.2 * k)) = sumA T * k.natAbs
  | [] => (Nat.zero_mul _).symm
  | x :: T => by
    show (x.2 * k).natAbs + sumA (T.map fun x => (x.1, x.2 * k)) = (x.2.natAbs + sumA T) * k.natAbs
    rw [sumA_scale k T, Int.natAbs_mul, Nat.add_mul]
theorem sumA_row (x : Int × Int) : ∀ q : KI, sumA (rowL (· + ·) x q) = x.2.natAbs * sumA q
  | [] => rfl
  | y :: q => by
    show (x.2 * y.2).natAbs + sumA (rowL (· + ·) x q) = x.2.natAbs * (y.2.natAbs + sumA q)
    rw [sumA_row x q, Int.natAbs_mul, Nat.mul_add]
theorem sumA_prod (q : KI) : ∀ p : KI, sumA (prodL (· + ·) p q) = sumA p * sumA q
  | [] => (Nat.zero_mul _).symm
  | x :: p => by
    rw [prodL_cons, sumA_app, sumA_row, sumA_prod q p]
    show _ = (x.2.natAbs + sumA p) * sumA q
    rw [Nat.add_mul]
theorem sumA_tab : ∀ e : Px, sumA (tabX e) = norm e
  | .num k => rfl
  | .var i => rfl
  | .add a b => by show sumA (tabX a ++ tabX b) = _; rw [sumA_app, sumA_tab a, sumA_tab b]; rfl
  | .sub a b => by
    show sumA (tabX a ++ (tabX b).map fun x => (x.1, x.2 * -1)) = _
    rw [sumA_app, sumA_scale, sumA_tab a, sumA_tab b]
    show _ + _ * 1 = _
    rw [Nat.mul_one]
    rfl
  | .mul a b => by show sumA (prodL _ _ _) = _; rw [sumA_prod, sumA_tab a, sumA_tab b]; rfl
  | .scl a k => by show sumA ((tabX a).map fun x => (x.1, x.2 * k)) = _; rw [sumA_scale, sumA_tab a]; rfl
theorem tot_sumA (j : Int) : ∀ T : KI, (tot T j).natAbs ≤ sumA T
  | [] => Nat.le_refl _
  | x :: T => by
    show ((if x.1 = j then x.2 else 0) + tot T j).natAbs ≤ x.2.natAbs + sumA T
    have := tot_sumA j T
    split <;> omega
theorem len_prodL (q : KI) : ∀ p : KI, (prodL (· + ·) p q).length = p.length * q.length
  | [] => (Nat.zero_mul _).symm
  | x :: p => by
    rw [prodL_cons, List.length_append, len_prodL q p]
    show (q.map _).length + _ = (p.length + 1) * q.length
    rw [List.length_map, Nat.succ_mul, Nat.add_comm]
theorem len_tab : ∀ e : Px, (tabX e).length = cnt e
  | .num k => rfl
  | .var i => rfl
  | .add a b => by show (tabX a ++ tabX b).length = _; rw [List.length_append, len_tab a, len_tab b]; rfl
  | .sub a b => by show (tabX a ++ negT (tabX b)).length = _; unfold negT; rw [List.length_append, List.length_map, len_tab a, len_tab b]; rfl
  | .mul a b => by show (prodL _ _ _).length = _; rw [len_prodL, len_tab a, len_tab b]; rfl
  | .scl a k => by show ((tabX a).map _).length = _; rw [List.length_map, len_tab a]; rfl
theorem Rep.bits {T : KI} {e : Px} (h : Rep T e) : ∀ x ∈ T, x.2.natAbs ≤ norm e := fun x hx => by
  have e1 := tot_mem h.nd (k := x.1) (c := x.2) hx
  rw [h.tot] at e1
  have := tot_sumA x.1 (tabX e)
  rw [sumA_tab, e1] at this
  exact this
theorem Rep.keys {T : KI} {e : Px} (h : Rep T e) : ∀ x ∈ T, ∃ y ∈ tabX e, y.1 = x.1 := fun x hx => by
  have e1 := tot_mem h.nd (k := x.1) (c := x.2) hx
  rw [h.tot] at e1
  have := tot_keyA (l := tabX e) (k := x.1) (by rw [e1]; exact h.nz x hx)
  obtain ⟨y, hy, q⟩ := List.mem_map.mp this
  exact ⟨y, hy, q⟩
/-- at most n entries in any table of e -/
def Few (n : Nat) (e : Px) : Prop := ∀ T, Rep T e → T.length ≤ n
theorem few_keys {e : Px} {L : List Int} (h : ∀ y ∈ tabX e, y.1 ∈ L) : Few L.length e := fun T r => by
  have := nodup_sub r.nd (b := L) fun k hk => by
    obtain ⟨x, hx, rfl⟩ := List.mem_map.mp hk
    obtain ⟨y, hy, q⟩ := r.keys x hx
    rw [← q]
    exact h y hy
  rw [List.length_map] at this
  exact this
theorem few_cnt (e : Px) : Few (cnt e) e := fun T r => by
  have := few_keys (e := e) (L := (tabX e).map (·.1)) (fun y hy => List.mem_map.mpr ⟨y, hy, rfl⟩) T r
  rw [List.length_map, len_tab] at this
  exact this
/-- all tables on the way are small enough -/
def Fine : Px → Prop
  | .num _ => True
  | .var _ => True
  | .add a b => Fine a ∧ Fine b ∧ ∃ m n, Few m a ∧ Few n b ∧ m + n < sizeLine
  | .sub a b => Fine a ∧ Fine b ∧ ∃ m n, Few m a ∧ Few n b ∧ m + n < sizeLine
  | .mul a b => Fine a ∧ Fine b ∧ (∃ m n, Few m a ∧ Few n b ∧ m * n < sizeLine ∧ m < sizeLine ∧ n < sizeLine) ∧ norm a < 2 ^ 400000 ∧ norm b < 2 ^ 400000
  | .scl a k => Fine a ∧ (∃ m, Few m a ∧ m < sizeLine) ∧ -(2 ^ 64) < k ∧ k < 2 ^ 64
theorem pos_cnt : ∀ e : Px, 0 < cnt e
  | .num _ => Nat.one_pos
  | .var _ => Nat.one_pos
  | .add a b => Nat.lt_of_lt_of_le (pos_cnt a) (Nat.le_add_right _ _)
  | .sub a b => Nat.lt_of_lt_of_le (pos_cnt a) (Nat.le_add_right _ _)
  | .mul a b => Nat.mul_pos (pos_cnt a) (pos_cnt b)
  | .scl a _ => pos_cnt a
/-- bits of the norm: b for a written number, 64 for a factor -/
def nb (b : Nat) : Px → Nat
  | .num _ => b
  | .var _ => 1
  | .add x y => max (nb b x) (nb b y) + 1
  | .sub x y => max (nb b x) (nb b y) + 1
  | .mul x y => nb b x + nb b y
  | .scl x _ => nb b x + 64
/-- numbers and factors are small -/
def Low (b : Nat) : Px → Prop
  | .num k => k.natAbs < 2 ^ b
  | .var _ => True
  | .add x y => Low b x ∧ Low b y
  | .sub x y => Low b x ∧ Low b y
  | .mul x y => Low b x ∧ Low b y
  | .scl x k => Low b x ∧ -(2 ^ 64) < k ∧ k < 2 ^ 64
theorem two_max {m n a b : Nat} (h : m < 2 ^ a) (g : n < 2 ^ b) : m + n < 2 ^ (max a b + 1) := by
  have h1 : (2 : Nat) ^ a ≤ 2 ^ max a b := Nat.pow_le_pow_right (by decide) (Nat.le_max_left _ _)
  have h2 : (2 : Nat) ^ b ≤ 2 ^ max a b := Nat.pow_le_pow_right (by decide) (Nat.le_max_right _ _)
  rw [Nat.pow_succ]
  omega
theorem mul_lt2 {m n a b : Nat} (h : m < 2 ^ a) (g : n < 2 ^ b) : m * n < 2 ^ (a + b) := by
  rw [Nat.pow_add]
  exact Nat.mul_lt_mul'' h g
theorem norm_nb {b : Nat} : ∀ {e : Px}, Low b e → norm e < 2 ^ nb b e
  | .num k, h => h
  | .var _, _ => by show 1 < 2 ^ 1; decide
  | .add x y, h => two_max (norm_nb h.1) (norm_nb h.2)
  | .sub x y, h => two_max (norm_nb h.1) (norm_nb h.2)
  | .mul x y, h => mul_lt2 (norm_nb h.1) (norm_nb h.2)
  | .scl x k, h => mul_lt2 (norm_nb h.1) (by have := h.2; omega)
theorem fine_of {b : Nat} : ∀ {e : Px}, Low b e → cnt e < sizeLine → nb b e ≤ 400000 → Fine e
  | .num _, _, _, _ => trivial
  | .var _, _, _, _ => trivial
  | .add x y, h, c, n => by
    have c : cnt x + cnt y < sizeLine := c
    have n : max (nb b x) (nb b y) + 1 ≤ 400000 := n
    exact ⟨fine_of h.1 (by omega) (by omega), fine_of h.2 (by omega) (by omega), _, _, few_cnt x, few_cnt y, c⟩
  | .sub x y, h, c, n => by
    have c : cnt x + cnt y < sizeLine := c
    have n : max (nb b x) (nb b y) + 1 ≤ 400000 := n
    exact ⟨fine_of h.1 (by omega) (by omega), fine_of h.2 (by omega) (by omega), _, _, few_cnt x, few_cnt y, c⟩
  | .mul x y, h, c, n => by
    have c : cnt x * cnt y < sizeLine := c
    have n : nb b x + nb b y ≤ 400000 := n
    have p1 := pos_cnt x
    have p2 := pos_cnt y
    have l1 : cnt x ≤ cnt x * cnt y := Nat.le_mul_of_pos_right _ p2
    have l2 : cnt y ≤ cnt x * cnt y := Nat.le_mul_of_pos_left _ p1
    exact ⟨fine_of h.1 (by omega) (by omega), fine_of h.2 (by omega) (by omega), ⟨_, _, few_cnt x, few_cnt y, c, by omega, by omega⟩, Nat.lt_of_lt_of_le (norm_nb h.1) (Nat.pow_le_pow_right (by decide) (by omega)), Nat.lt_of_lt_of_le (norm_nb h.2) (Nat.pow_le_pow_right (by decide) (by omega))⟩
  | .scl x k, h, c, n => by
    have c : cnt x < sizeLine := c
    have n : nb b x + 64 ≤ 400000 := n
    exact ⟨fine_of h.1 c (by omega), ⟨_, few_cnt x, c⟩, h.2⟩
/-! ### values of a table -/
/-- the table's value, B to the keys -/
def evT (B : Int) : KI → Int
  | [] => 0
  | x :: T => x.2 * B ^ x.1.toNat + evT B T
theorem evT_app (B : Int) : ∀ a b : KI, evT B (a ++ b) = evT B a + evT B b
  | [], b => (Int.zero_add _).symm
  | x :: a, b => by
    show _ + evT B (a ++ b) = _ + evT B a + evT B b
    rw [evT_app B a b]
    omega
theorem evT_scale (B k : Int) : ∀ T : KI, evT B (T.map fun x => (x.1, x.2 * k)) = evT B T * k
  | [] => (Int.zero_mul _).symm
  | x :: T => by
    show x.2 * k * B ^ x.1.toNat + evT B (T.map fun x => (x.1, x.2 * k)) = (x.2 * B ^ x.1.toNat + evT B T) * k
    rw [evT_scale B k T, Int.add_mul]
    simp only [Int.mul_assoc, Int.mul_left_comm, Int.mul_comm]
def KeysNn (T : KI) : Prop := ∀ x ∈ T, 0 ≤ x.1
theorem evT_row {B : Int} {x : Int × Int} (hx : 0 ≤ x.1) : ∀ {q : KI}, KeysNn q → evT B (rowL (· + ·) x q) = x.2 * B ^ x.1.toNat * evT B q
  | [], _ => (Int.mul_zero _).symm
  | y :: q, h => by
    show x.2 * y.2 * B ^ (x.1 + y.1).toNat + evT B (rowL (· + ·) x q) = x.2 * B ^ x.1.toNat * (y.2 * B ^ y.1.toNat + evT B q)
    have hy := h y List.mem_cons_self
    rw [evT_row hx fun z hz => h z (List.mem_cons_of_mem _ hz), Int.toNat_add hx hy, Int.pow_add, Int.mul_add]
    simp only [Int.mul_assoc, Int.mul_left_comm]
theorem evT_prod {B : Int} {q : KI} (hq : KeysNn q) : ∀ {p : KI}, KeysNn p → evT B (prodL (· + ·) p q) = evT B p * evT B q
  | [], _ => (Int.zero_mul _).symm
  | x :: p, h => by
    rw [prodL_cons, evT_app, evT_row (h x List.mem_cons_self) hq, evT_prod hq fun z hz => h z (List.mem_cons_of_mem _ hz)]
    show _ = (x.2 * B ^ x.1.toNat + evT B p) * evT B q
    rw [Int.add_mul]
theorem nn_tab : ∀ e : Px, KeysNn (tabX e)
  | .num k, x, h => by rw [List.mem_singleton.mp h]; exact Int.le_refl _
  | .var i, x, h => by rw [List.mem_singleton.mp h]; exact Int.natCast_nonneg _
  | .add a b, x, h => (List.mem_append.mp h).elim (nn_tab a x) (nn_tab b x)
  | .sub a b, x, h => (List.mem_append.mp h).elim (nn_tab a x) fun h => by
    obtain ⟨y, hy, rfl⟩ := List.mem_map.mp h
    exact nn_tab b y hy
  | .mul a b, x, h => by
    obtain ⟨y, hy, z, hz, rfl⟩ := mem_prodL'.mp h
    exact Int.add_nonneg (nn_tab a y hy) (nn_tab b z hz)
  | .scl a k, x, h => by
    obtain ⟨y, hy, rfl⟩ := List.mem_map.mp h
    exact nn_tab a y hy
where
  mem_prodL' {p q : KI} {x : Int × Int} : x ∈ prodL (· + ·) p q ↔ ∃ y ∈ p, ∃ z ∈ q, x = (y.1 + z.1, y.2 * z.2) := by
    unfold prodL rowL
    rw [List.mem_flatMap]
    constructor
    · rintro ⟨y, hy, hx⟩
      obtain ⟨z, hz, rfl⟩ := List.mem_map.mp hx
      exact ⟨y, hy, z, hz, rfl⟩
    · rintro ⟨y, hy, z, hz, rfl⟩
      exact ⟨y, hy, List.mem_map.mpr ⟨z, hz, rfl⟩⟩
/-- the unknowns as powers of B -/
def powS (B : Int) : Nat → Int := fun i => B ^ (radix ^ i)
theorem evT_tab (B : Int) : ∀ e : Px, evT B (tabX e) = evX (powS B) e
  | .num k => by show k * B ^ 0 + 0 = k; rw [Int.pow_zero]; omega
  | .var i => by
    show 1 * B ^ (((radix ^ i : Nat) : Int)).toNat + 0 = B ^ (radix ^ i)
    rw [Int.toNat_natCast]
    omega
  | .add a b => by show evT B (tabX a ++ tabX b) = _; rw [evT_app, evT_tab B a, evT_tab B b]; rfl
  | .sub a b => by
    show evT B (tabX a ++ (tabX b).map fun x => (x.1, x.2 * -1)) = evX (powS B) a - evX (powS B) b
    rw [evT_app, evT_scale, evT_tab B a, evT_tab B b]
    omega
  | .mul a b => by show evT B (prodL _ _ _) = _; rw [evT_prod (nn_tab b) (nn_tab a), evT_tab B a, evT_tab B b]; rfl
  | .scl a k => by show evT B ((tabX a).map fun x => (x.1, x.2 * k)) = _; rw [evT_scale, evT_tab B a]; rfl
/-! what is summed up counts -/
theorem evT_filter (B : Int) (g : Int) : ∀ l : KI, evT B l = tot l g * B ^ g.toNat + evT B (l.filter fun x => decide (x.1 ≠ g))
  | [] => by show (0 : Int) = 0 * _ + 0; omega
  | x :: l => by
    have ih := evT_filter B g l
    show x.2 * B ^ x.1.toNat + evT B l = ((if x.1 = g then x.2 else 0) + tot l g) * B ^ g.toNat + _
    rw [List.filter_cons]
    by_cases h : x.1 = g
    · rw [if_pos h, if_neg (by simp [h]), Int.add_mul, ih, h]
      omega
    · rw [if_neg h, if_pos (by simp [h]), Int.zero_add]
      show _ = _ + (x.2 * B ^ x.1.toNat + evT B _)
      omega
theorem totI_filter (g f : Int) (h : f ≠ g) : ∀ l : KI, tot (l.filter fun x => decide (x.1 ≠ g)) f = tot l f
  | [] => rfl
  | x :: l => by
    rw [List.filter_cons]
    by_cases q : x.1 = g
    · rw [if_neg (by simp [q]), totI_filter g f h l]
      show _ = (if x.1 = f then x.2 else 0) + tot l f
      rw [if_neg fun z => h (by rw [← z, q]), Int.zero_add]
    · rw [if_pos (by simp [q])]
      show (if x.1 = f then x.2 else 0) + tot _ f = (if x.1 = f then x.2 else 0) + tot l f
      rw [totI_filter g f h l]
theorem evT_zero (B : Int) : ∀ (n : Nat) (l : KI), l.length ≤ n → (∀ f, tot l f = 0) → evT B l = 0
  | _, [], _, _ => rfl
  | 0, x :: l, h, _ => by cases h
  | n + 1, x :: l, h, z => by
    rw [evT_filter B x.1, z, Int.zero_mul, Int.zero_add]
    refine evT_zero B n _ ?_ fun f => ?_
    · rw [List.filter_cons, if_neg (by simp)]
      have := List.length_filter_le (fun y : Int × Int => decide (y.1 ≠ x.1)) l
      rw [List.length_cons] at h
      omega
    · by_cases q : f = x.1
      · rw [q]
        exact tot_none fun y hy => by simpa using (List.mem_filter.mp hy).2
      · rw [totI_filter _ _ q, z]
theorem tot_neg (f : Int) : ∀ l : KI, tot (negT l) f = - tot l f
  | [] => rfl
  | x :: l => by
    show (if x.1 = f then x.2 * -1 else 0) + tot (negT l) f = - ((if x.1 = f then x.2 else 0) + tot l f)
    rw [tot_neg f l]
    split <;> omega
theorem evT_ext (B : Int) {a b : KI} (h : ∀ f, tot a f = tot b f) : evT B a = evT B b := by
  have := evT_zero B _ (a ++ negT b) (Nat.le_refl _) fun f => by rw [tot_app, tot_neg, h]; omega
  have e2 : evT B (negT b) = evT B b * -1 := evT_scale B (-1) b
  rw [evT_app, e2] at this
  omega
theorem Rep.ev {T : KI} {e : Px} (h : Rep T e) (B : Int) : evT B T = evX (powS B) e := (evT_ext B h.tot).trans (evT_tab B e)
/-- a table that is not empty has a value that is not 0 -/
theorem Rep.nnk {T : KI} {e : Px} (h : Rep T e) : KeysNn T := fun x hx => by
  obtain ⟨y, hy, q⟩ := h.keys x hx
  rw [← q]
  exact nn_tab e y hy
theorem evT_low {B : Nat} {K : Nat} : ∀ {T : KI}, (∀ x ∈ T, x.1.toNat ≤ K) → (evT (B : Int) T).natAbs ≤ sumA T * B ^ K ∨ B = 0
  | [], _ => .inl (by show 0 ≤ _; exact Nat.zero_le _)
  | x :: T, h => by
    rcases Nat.eq_zero_or_pos B with z | z
    · exact .inr z
    · rcases evT_low (B := B) (K := K) (T := T) (fun y hy => h y (List.mem_cons_of_mem _ hy)) with ih | ih
      · left
        show (x.2 * (B : Int) ^ x.1.toNat + evT B T).natAbs ≤ (x.2.natAbs + sumA T) * B ^ K
        have h1 : (x.2 * (B : Int) ^ x.1.toNat).natAbs ≤ x.2.natAbs * B ^ K := by
          rw [Int.natAbs_mul, Int.natAbs_pow, Int.natAbs_natCast]
          exact Nat.mul_le_mul_left _ (Nat.pow_le_pow_right z (h x List.mem_cons_self))
        rw [Nat.add_mul]
        omega
      · omega
theorem top_key : ∀ {T : KI}, T ≠ [] → ∃ x ∈ T, ∀ y ∈ T, y.1 ≤ x.1
  | [x], _ => ⟨x, List.mem_singleton.mpr rfl, fun y hy => by rw [List.mem_singleton.mp hy]; exact Int.le_refl _⟩
  | x :: z :: T, _ => by
    obtain ⟨y, hy, m⟩ := top_key (T := z :: T) (by simp)
    by_cases q : y.1 ≤ x.1
    · exact ⟨x, List.mem_cons_self, fun u hu => (List.mem_cons.mp hu).elim (fun e => by rw [e]; exact Int.le_refl _) fun hu => Int.le_trans (m u hu) q⟩
    · exact ⟨y, List.mem_cons_of_mem _ hy, fun u hu => (List.mem_cons.mp hu).elim (fun e => by rw [e]; omega) (m u)⟩
theorem sumA_filter (f : Int × Int → Bool) : ∀ T : KI, sumA (T.filter f) ≤ sumA T
  | [] => Nat.le_refl _
  | x :: T => by
    rw [List.filter_cons]
    have := sumA_filter f T
    split
    · show _ + _ ≤ _ + _; omega
    · show _ ≤ _ + _; omega
theorem evT_ne {T : KI} (nz : ∀ x ∈ T, x.2 ≠ 0) (nd : (T.map (·.1)).Nodup) (nn : KeysNn T) (ne : T ≠ []) : evT ((sumA T + 1 : Nat) : Int) T ≠ 0 := by
  obtain ⟨x, hx, m⟩ := top_key ne
  have e := evT_filter ((sumA T + 1 : Nat) : Int) x.1 T
  rw [tot_mem nd (k := x.1) (c := x.2) hx] at e
  have nx := nz x hx
  intro z
  rw [z] at e
  have rest : evT ((sumA T + 1 : Nat) : Int) (T.filter fun y => decide (y.1 ≠ x.1)) = - (x.2 * ((sumA T + 1 : Nat) : Int) ^ x.1.toNat) := by omega
  have low : ∀ y ∈ T.filter (fun y => decide (y.1 ≠ x.1)), y.1 < x.1 := fun y hy => by
    have h1 := (List.mem_filter.mp hy).1
    have h2 : y.1 ≠ x.1 := by simpa using (List.mem_filter.mp hy).2
    have := m y h1
    omega
  have big : (sumA T + 1) ^ x.1.toNat ≤ (evT ((sumA T + 1 : Nat) : Int) (T.filter fun y => decide (y.1 ≠ x.1))).natAbs := by
    rw [rest, Int.natAbs_neg, Int.natAbs_mul, Int.natAbs_pow, Int.natAbs_natCast]
    exact Nat.le_mul_of_pos_left _ (Int.natAbs_pos.mpr nx)
  by_cases k0 : x.1.toNat = 0
  · have none : T.filter (fun y => decide (y.1 ≠ x.1)) = [] := by
      rw [List.eq_nil_iff_forall_not_mem]
      intro y hy
      have h1 := low y hy
      have h2 := nn y (List.mem_filter.mp hy).1
      omega
    rw [none] at big
    have p : 0 < (sumA T + 1) ^ x.1.toNat := Nat.pow_pos (Nat.succ_pos _)
    have : (evT ((sumA T + 1 : Nat) : Int) []).natAbs = 0 := rfl
    omega
  · rcases evT_low (B := sumA T + 1) (K := x.1.toNat - 1) (T := T.filter fun y => decide (y.1 ≠ x.1)) (fun y hy => by have := low y hy; omega) with h | h
    · have s := sumA_filter (fun y => decide (y.1 ≠ x.1)) T
      have p : 0 < (sumA T + 1) ^ (x.1.toNat - 1) := Nat.pow_pos (Nat.succ_pos _)
      have q : (sumA T + 1) ^ x.1.toNat = (sumA T + 1) ^ (x.1.toNat - 1) * (sumA T + 1) := by rw [← Nat.pow_succ]; congr 1; omega
      have r : sumA (T.filter fun y => decide (y.1 ≠ x.1)) * (sumA T + 1) ^ (x.1.toNat - 1) ≤ sumA T * (sumA T + 1) ^ (x.1.toNat - 1) := Nat.mul_le_mul_right _ s
      have t : (sumA T + 1) ^ (x.1.toNat - 1) * (sumA T + 1) = sumA T * (sumA T + 1) ^ (x.1.toNat - 1) + (sumA T + 1) ^ (x.1.toNat - 1) := by rw [Nat.mul_comm, Nat.succ_mul]
      omega
    · omega
/-- a polynomial that is 0 at all whole numbers has the empty table -/
theorem Rep.empty {T : KI} {e : Px} (h : Rep T e) (z : ∀ s, evX s e = 0) : T = [] := Classical.byContradiction fun ne => evT_ne h.nz h.nd h.nnk ne (by rw [h.ev]; exact z _)
/-- one that is not 0 at some powers hasn't -/
theorem Rep.there {T : KI} {e : Px} (h : Rep T e) {B : Int} (z : evX (powS B) e ≠ 0) : T ≠ [] := fun q => z (by rw [← h.ev B, q]; rfl)
/-! ### from expressions to tables -/
theorem rep_num (k : Int) : Rep (if k = 0 then [] else [(0, k)]) (.num k) := by
  by_cases h : k = 0
  · rw [if_pos h, h]
    exact ⟨(fun x h => (nomatch h)), List.nodup_nil, fun j => by show (0 : Int) = (if (0 : Int) = j then 0 else 0) + 0; split <;> rfl⟩
  · rw [if_neg h]
    exact ⟨fun x hx => by rw [List.mem_singleton.mp hx]; exact h, nd_one _, fun j => rfl⟩
theorem rep_var (i : Nat) : Rep [((radix ^ i : Nat), 1)] (.var i) := ⟨fun x hx => by rw [List.mem_singleton.mp hx]; exact Int.one_ne_zero, nd_one _, fun j => rfl⟩
theorem tot_sc (k j : Int) : ∀ T : KI, tot (T.map fun x => (x.1, x.2 * k)) j = tot T j * k
  | [] => (Int.zero_mul _).symm
  | x :: T => by
    show (if x.1 = j then x.2 * k else 0) + tot (T.map fun x => (x.1, x.2 * k)) j = ((if x.1 = j then x.2 else 0) + tot T j) * k
    rw [tot_sc k j T, Int.add_mul]
    split <;> omega
theorem rep_scl {T : KI} {e : Px} (h : Rep T e) {k : Int} (k0 : k ≠ 0) : Rep (T.map fun x => (x.1, x.2 * k)) (.scl e k) := by
  refine ⟨fun x hx => ?_, by rw [List.map_map]; exact h.nd, fun j => ?_⟩
  · obtain ⟨y, hy, rfl⟩ := List.mem_map.mp hx
    exact Int.mul_ne_zero (h.nz y hy) k0
  · show _ = tot ((tabX e).map fun x => (x.1, x.2 * k)) j
    rw [tot_sc, tot_sc, h.tot]
theorem rep_scl0 {e : Px} : Rep [] (.scl e 0) := ⟨(fun x h => (nomatch h)), List.nodup_nil, fun j => by
  show (0 : Int) = tot ((tabX e).map fun x => (x.1, x.2 * 0)) j
  rw [tot_sc, Int.mul_zero]⟩
theorem rep_mul {T S R : KI} {a b : Px} (h : Rep T a) (g : Rep S b) (p : ProdR T S R) (nd : (R.map (·.1)).Nodup) : Rep R (.mul a b) :=
  ⟨p.nz, nd, fun j => by
    rw [p.tot]
    exact tot_prod_ext (· + ·) (fun a b => Int.add_comm a b) h.tot g.tot j⟩
/-! the sum, step by step -/
def dropT (T : KI) (k : Int) : KI := T.filter fun x => decide (x.1 ≠ k)
def plusO (T : KI) (x : Int × Int) : KI := if getT T x.1 + x.2 ≠ 0 then putT T x.1 (getT T x.1 + x.2) else dropT T x.1
def plusT (T S : KI) : KI := S.foldl plusO T
theorem plusT_take {S : KI} {i : Nat} {x : Int × Int} (h : S[i]? = some x) (T : KI) : plusT T (S.take (i + 1)) = plusO (plusT T (S.take i)) x := by
  unfold plusT
  rw [take_snoc h, List.foldl_append]
  rfl
theorem nd_drop {T : KI} (h : (T.map (·.1)).Nodup) (k : Int) : ((dropT T k).map (·.1)).Nodup := h.sublist (List.filter_sublist.map _)
theorem nd_plusO {T : KI} (h : (T.map (·.1)).Nodup) (x : Int × Int) : ((plusO T x).map (·.1)).Nodup := by
  unfold plusO
  split
  · exact nodup_putT h _ _
  · exact nd_drop h _
theorem nz_plusO {T : KI} (h : ∀ x ∈ T, x.2 ≠ 0) (x : Int × Int) : ∀ y ∈ plusO T x, y.2 ≠ 0 := fun y hy => by
  unfold plusO at hy
  split at hy
  · rename_i z
    rcases mem_put hy with q | q
    · exact h y q
    · rw [q]; exact z
  · exact h y (List.mem_filter.mp hy).1
where
  mem_put {T : KI} {k c : Int} {x : Int × Int} (h : x ∈ putT T k c) : x ∈ T ∨ x.2 = c := by
    unfold putT at h
    split at h
    · obtain ⟨y, hy, e⟩ := List.mem_map.mp h
      split at e
      · rw [← e]; exact .inr rfl
      · rw [← e]; exact .inl hy
    · rcases List.mem_append.mp h with h | h
      · exact .inl h
      · rw [List.mem_singleton.mp h]; exact .inr rfl
theorem tot_plusO {T : KI} (h : (T.map (·.1)).Nodup) (x : Int × Int) (j : Int) : tot (plusO T x) j = tot T j + if x.1 = j then x.2 else 0 := by
  unfold plusO
  split
  · rw [← getT_tot (nodup_putT h _ _), ← getT_tot h, getT_put]
    by_cases e : j = x.1
    · rw [if_pos e, if_pos e.symm, e]
    · rw [if_neg e, if_neg (fun z => e z.symm), Int.add_zero]
  · rename_i z
    by_cases e : j = x.1
    · have e1 : tot (dropT T x.1) j = 0 := tot_none fun y hy q => by
        have : y.1 ≠ x.1 := by simpa [dropT] using (List.mem_filter.mp hy).2
        exact this (q.trans e)
      rw [e1, if_pos e.symm, e, ← getT_tot h]
      simp only [ne_eq, Decidable.not_not] at z
      omega
    · rw [if_neg (fun z => e z.symm), Int.add_zero]
      exact totI_filter x.1 j e T
theorem plusT_ok {S : KI} : ∀ {T : KI}, (T.map (·.1)).Nodup → (∀ x ∈ T, x.2 ≠ 0) → ((plusT T S).map (·.1)).Nodup ∧ (∀ x ∈ plusT T S, x.2 ≠ 0) ∧ ∀ j, tot (plusT T S) j = tot T j + tot S j := by
  induction S with
  | nil => exact fun h z => ⟨h, z, fun j => (Int.add_zero _).symm⟩
  | cons x S ih =>
    intro T h z
    obtain ⟨h1, h2, h3⟩ := ih (nd_plusO h x) (nz_plusO z x)
    refine ⟨h1, h2, fun j => ?_⟩
    have e := tot_plusO h x j
    show tot (plusT (plusO T x) S) j = tot T j + ((if x.1 = j then x.2 else 0) + tot S j)
    rw [h3, e]
    omega
theorem len_plusO (T : KI) (x : Int × Int) : (plusO T x).length ≤ T.length + 1 := by
  unfold plusO
  split
  · exact len_putT _ _ _
  · exact Nat.le_succ_of_le (List.length_filter_le _ _)
theorem len_plusT (S : KI) : ∀ T : KI, (plusT T S).length ≤ T.length + S.length := by
  induction S with
  | nil => exact fun T => Nat.le_refl _
  | cons x S ih =>
    intro T
    have h1 := ih (plusO T x)
    have h2 := len_plusO T x
    show (plusT (plusO T x) S).length ≤ T.length + (S.length + 1)
    omega
theorem rep_add {T S : KI} {a b : Px} (h : Rep T a) (g : Rep S b) : Rep (plusT T S) (.add a b) := by
  obtain ⟨h1, h2, h3⟩ := plusT_ok (S := S) h.nd h.nz
  exact ⟨h2, h1, fun j => by rw [h3, h.tot, g.tot]; exact (tot_app _ _ j).symm⟩
theorem rep_sub {T S : KI} {a b : Px} (h : Rep T a) (g : Rep S b) : Rep (plusT T (S.map fun x => (x.1, x.2 * -1))) (.sub a b) := by
  obtain ⟨h1, h2, h3⟩ := plusT_ok (S := S.map fun x => (x.1, x.2 * -1)) h.nd h.nz
  exact ⟨h2, h1, fun j => by
    rw [h3, tot_sc, h.tot, g.tot]
    show _ = tot (tabX a ++ negT (tabX b)) j
    rw [tot_app, tot_neg]
    omega⟩
end CN

set_option Elab.async false
set_option linter.all false
set_option maxRecDepth 100000
set_option maxHeartbeats 4000000
set_option autoImplicit false
set_option pp.maxSteps 300
/-! figurehold.tables: number, scaled, plus, minus, times, of what is written down. -/
namespace CN
open PySem L2 K1D K2P
abbrev sNumber : Stmt := K2P.top 43
abbrev sScaled : Stmt := K2P.top 45
abbrev sPlus : Stmt := K2P.top 47
abbrev sMinus : Stmt := K2P.top 49
/-- at v a table of e -/
def TabE (H : Hp) (v : V) (e : Px) : Prop := ∃ (d : Addr) (T : KI), v = .ref d ∧ TabAt H d T ∧ Rep T e
theorem TabE.up {H G : Hp} {v : V} {e : Px} (h : TabE H v e) (s : Same H G) : TabE G v e := by
  obtain ⟨d, T, e1, h1, h2⟩ := h
  exact ⟨d, T, e1, h1.up s, h2⟩
def spNum : Sp := fun vs H Q _ => ∃ k : Int, vs = [.int k] ∧ ∀ (v : V) (G : Hp), Same H G → TabE G v (.num k) → Q v G
def spScl : Sp := fun vs H Q _ => ∃ (v : V) (k : Int) (e : Px), vs = [v, .int k] ∧ TabE H v e ∧ Fine (.scl e k) ∧ ∀ (u : V) (G : Hp), Same H G → TabE G u (.scl e k) → Q u G
def spOp2 (op : Px → Px → Px) : Sp := fun vs H Q _ => ∃ (u v : V) (a b : Px), vs = [u, v] ∧ TabE H u a ∧ TabE H v b ∧ Fine (op a b) ∧ ∀ (z : V) (G : Hp), Same H G → TabE G z (op a b) → Q z G
theorem dropK_mpT (T : KI) (k : Int) : dropK (mpT eI T) (eI k) = mpT eI (dropT T k) := by
  unfold dropK dropT mpT
  rw [List.filter_map]
  congr 1
  refine List.filter_congr fun x _ => ?_
  show decide (eI x.1 ≠ eI k) = decide (x.1 ≠ k)
  exact decide_eq_decide.mpr (not_congr ⟨fun h => eI_inj _ _ h, fun h => by rw [h]⟩)
theorem isSome_mpT {T : KI} {k : Int} : (valV (mpT eI T) (eI k)).isSome = (valT T k).isSome := by
  rw [valV_mpT eI_inj, Option.isSome_map]
theorem put_id {T : KI} (nd : (T.map (·.1)).Nodup) {i : Nat} {y : Int × Int} (h : T[i]? = some y) : putT (T.take i) y.1 y.2 = T.take (i + 1) := by
  rw [take_snoc h]
  refine put_new fun q => ?_
  obtain ⟨x, hx, ex⟩ := List.mem_map.mp q
  obtain ⟨j, hj⟩ := List.mem_iff_getElem?.mp hx
  rw [List.getElem?_take] at hj
  split at hj
  · rename_i lj
    have e1 : (T.map (·.1))[j]? = some y.1 := by rw [List.getElem?_map, hj]; exact congrArg some ex
    have e2 : (T.map (·.1))[i]? = some y.1 := by rw [List.getElem?_map, h]; rfl
    have := (List.getElem?_inj (List.getElem?_eq_some_iff.mp e1).1 nd).mp (e1.trans e2.symm)
    omega
  · cases hj
theorem put_sc {T : KI} (nd : (T.map (·.1)).Nodup) (k : Int) {i : Nat} {y : Int × Int} (h : T[i]? = some y) : putT ((T.take i).map fun x => (x.1, x.2 * k)) y.1 (y.2 * k) = (T.take (i + 1)).map fun x => (x.1, x.2 * k) := by
  have nd2 : ((T.map fun x => (x.1, x.2 * k)).map (·.1)).Nodup := by rw [List.map_map]; exact nd
  have h2 : (T.map fun x => (x.1, x.2 * k))[i]? = some (y.1, y.2 * k) := by rw [List.getElem?_map, h]; rfl
  have := put_id nd2 h2
  rw [← List.map_take, ← List.map_take] at this
  exact this
theorem getD_mp {T : KI} {k : Int} : (valV (mpT eI T) (eI k)).getD (.int 0) = .int (getT T k) := getD_mpT eI_inj T k
section
variable {P : Program} {w : World} {K : PySem.W.Frag} {mg : Str → Option Value} {base : Heap}
theorem scNumber : FnScope ["k"] ["k"] (defScope sNumber) := ⟨rfl, rfl, rfl, by decide +kernel, rfl, by decide +kernel, by decide +kernel⟩
theorem ok_num {f : Addr} {fd : FuncData} (F : Fun K "number" "number" sNumber f fd) : FnOk P w K mg base CX0 1 f fd ["k"] spNum := by
  refine F.ok scNumber (fun vs H Q E h => ?_) (fun cdv A outer s H vs Q E hr h => ?_)
  · obtain ⟨k, rfl, _⟩ := h
    rfl
  · obtain ⟨k, rfl, go⟩ := h
    refine ⟨_, pss_one (ps_ret (pe_ifExp (pt_cmpR op_ne (pv 0) pe_int (nomark _)) (pe_disp (pps_cons pe_int (pv 0) pps_nil) rfl rfl (by simp) (by decide)) pe_dnewK)), ?_⟩
    refine ⟨_, rfl, rfl, _, rfl, ?_⟩
    have rn := rep_num k
    by_cases z : k = 0
    · rw [if_pos z] at rn
      refine ifN (by simp [z]) (fun p hp => go (.ref p) _ (same_new hp) ⟨p, [], rfl, ⟨?_, rn.nd⟩, rn⟩)
      rw [upd_same]; rfl
    · rw [if_neg z] at rn
      refine ifY (by simp [z]) (fun p hp => ?_)
      refine ⟨_, rfl, upd_same, [(.inl 0, .int k)], rfl, by show 1 ≤ 15; omega, ?_⟩
      rw [upd_upd]
      refine go (.ref p) _ (same_new hp) ⟨p, [(0, k)], rfl, ⟨?_, rn.nd⟩, rn⟩
      rw [upd_same]
      rfl
theorem scScaled : FnScope ["p", "k", "key", "many"] ["p", "k"] (defScope sScaled) := ⟨rfl, rfl, rfl, by decide +kernel, rfl, by decide +kernel, by decide +kernel⟩
theorem ok_scl {f : Addr} {fd : FuncData} (F : Fun K "scaled" "scaled" sScaled f fd) : FnOk P w K mg base CX0 1 f fd ["p", "k"] spScl := by
  refine F.ok scScaled (fun vs H Q E h => ?_) (fun cdv A outer s H vs Q E hr h => ?_)
  · obtain ⟨v, k, e, rfl, _⟩ := h
    rfl
  · obtain ⟨v, k, e, rfl, ⟨d, T, rfl, hd, rp⟩, ⟨_, ⟨n, few, ns⟩, k1, k2⟩, go⟩ := h
    refine ⟨_, pss_cons (ps_if (pt_cmpR op_eq (pv 1) pe_int (nomark _)) (pss_one (ps_ret pe_dnewK)) pss_nil)
      (pss_one (ps_lock (ps_ret (pe_dc (own := [("key", 2), ("many", 3)]) (g := gTup K 2 (gCons (gName 2) (gCons (gName 3) gNil))) (tt := tYes) (tk := tVar 2) (tv := tOp (rI CMul fun i j => .int (i * j)) (tVar 3) (tVar 1)) rfl scScaled.nd (pi_items (pv 0)) (blkOk_by (own := [("key", 2), ("many", 3)]) (N := ["p", "k", "key", "many"]) (sc := defScope sScaled) (by decide +kernel))
        (fun _ _ _ _ _ => pg_tup rfl (pgs_cons (pg_name (i := 2) scScaled.nd rfl (Or.inl rfl)) (pgs_cons (pg_name (i := 3) scScaled.nd rfl (Or.inl rfl)) pgs_nil))) (fun _ _ _ _ _ => pts_nil)
        (fun _ _ _ _ _ => pv 2) (fun _ _ _ _ _ => pe_op op_mul (pv 3) (pv 1)))))), ?_⟩
    have lT : T.length < sizeLine := Nat.lt_of_le_of_lt (few T rp) ns
    refine ⟨_, rfl, rfl, _, rfl, ?_⟩
    by_cases k0 : k = 0
    · subst k0
      refine ifY (by decide) fun p hp => go (.ref p) _ (same_new hp) ⟨p, [], rfl, ⟨?_, (rep_scl0 (e := e)).nd⟩, rep_scl0⟩
      rw [upd_same]; rfl
    refine ifN (by simp [k0]) ?_
    refine ⟨d, _, hd.1, True.intro, fun od => ?_⟩
    have l0 : LkT d od (.dK (mpT eI T)) H (upd H d (.frz od (.dK (mpT eI T)))) := LkT.start
    generalize upd H d (.frz od (.dK (mpT eI T))) = F0 at l0 ⊢
    refine ⟨_, rfl, d, od, _, rfl, l0.1, fun D nD => ?_⟩
    have Dd : D ≠ d := fun z => by rw [z, l0.1] at nD; cases nD
    have HD : H D = none := by
      cases q : H D with
      | none => rfl
      | some o => rw [l0.2 _ _ Dd q] at nD; cases nD
    refine blk_n (o := fun D => .dK []) (n := (mpT eI T).length) (fun (i : Nat) (G : Hp) => LkT d od (.dK (mpT eI T)) H G ∧ G D = some (.dK (mpT eI ((T.take i).map fun x => (x.1, x.2 * k)))))
      ⟨l0.new nD, upd_same⟩ (fun i G hi ⟨l, _⟩ => ⟨l.1, hi⟩) (fun G ⟨l, _⟩ => ⟨l.1, Nat.le_refl _⟩) (fun i G x G' hi ⟨l, h1⟩ hy => ?_) (fun G ⟨l, h1⟩ => ?_)
    · obtain ⟨t, kk, v, hkv, rfl, nt, rfl⟩ := hy
      obtain ⟨y, hy, rfl, rfl⟩ := at_mpT hkv
      have l2 := l.new (o := .tup [kV (eI y.1), .int y.2]) nt
      have ht : upd G t (.tup [kV (eI y.1), .int y.2]) t = some (.tup [kV (eI y.1), .int y.2]) := upd_same
      have h2 : upd G t (.tup [kV (eI y.1), .int y.2]) D = some (.dK (mpT eI ((T.take i).map fun x => (x.1, x.2 * k)))) := (upd_ne (ne_of_none h1 nt)).trans h1
      generalize upd G t (.tup [kV (eI y.1), .int y.2]) = G2 at l2 ht h2 ⊢
      refine ⟨t, _, rfl, SqT.of ht, rfl, _, _, rfl, _, _, rfl, rfl, rfl, _, rfl, _, rfl, _, rfl, _, _, rfl, rfl, .inr ⟨k1, k2⟩, _, eI y.1, rfl, h2, by rw [len_mpT, List.length_map, List.length_take]; omega, l2.set Dd HD, ?_⟩
      rw [upd_same, putK_mpT eI_inj, put_sc hd.2 k hy]
    · rw [len_mpT, List.take_length] at h1
      have rs := rep_scl rp k0
      refine ⟨l.1, go (.ref D) _ (l.done hd.1) ⟨D, _, rfl, ⟨(upd_ne Dd).trans h1, rs.nd⟩, rs⟩⟩
theorem scPlus : FnScope ["p", "q", "key", "out", "many", "both"] ["p", "q"] (defScope sPlus) := ⟨rfl, rfl, rfl, by decide +kernel, rfl, by decide +kernel, by decide +kernel⟩
/-- the sum of two tables -/
def spPlu : Sp := fun vs H Q _ => ∃ (d e : Addr) (T S : KI), vs = [.ref d, .ref e] ∧ TabAt H d T ∧ TabAt H e S ∧ T.length + S.length < sizeLine ∧ (∀ x ∈ S, x.2 ≠ 0) ∧ ∀ (r : Addr) (G : Hp), Same H G → H r = none → G r = some (.dK (mpT eI (plusT T S))) → Q (.ref r) G
theorem ok_plu {f : Addr} {fd : FuncData} (F : Fun K "plus" "plus" sPlus f fd) : FnOk P w K mg base CX0 1 f fd ["p", "q"] spPlu := by
  refine F.ok scPlus (fun vs H Q E h => ?_) (fun cdv A outer s H vs Q E hr h => ?_)
  · obtain ⟨d, e, T, S, rfl, _⟩ := h
    rfl
  · obtain ⟨d, e, T, S, rfl, hd, he, hl, nz, go⟩ := h
    refine ⟨_, pss_cons (ps_lock (ps_setDc (i := 3) (own := [("key", 2)]) (g := gName 2) (tt := tYes) (tk := tVar 2) (tv := tDGet (tVar 0) (tVar 2)) rfl scPlus.nd rfl rfl rfl (pi_keys (pv 0)) (blkOk_by (own := [("key", 2)]) (N := ["p", "q", "key", "out", "many", "both"]) (sc := defScope sPlus) (by decide +kernel))
        (fun _ _ _ _ _ => pg_name (i := 2) scPlus.nd rfl (Or.inl rfl)) (fun _ _ _ _ _ => pts_nil) (fun _ _ _ _ _ => pv 2) (fun _ _ _ _ _ => pe_dget (hu1 hr) (pv 0) (pv 2) (fun _ _ => rfl))))
      (pss_cons (ps_lock (ps_for PassesOwn.never rfl (pi_items (pv 1)) (pg_tup rfl (pgs_cons (pg_name (i := 2) scPlus.nd rfl (Or.inl rfl)) (pgs_cons (pg_name (i := 4) scPlus.nd rfl (Or.inl rfl)) pgs_nil)))
        (pss_cons (ps_set (i := 5) scPlus.nd rfl (Or.inl rfl) (pe_op op_add (pe_dget2 (hu1 hr) (pv 3) (pv 2) pe_int ⟨rfl, rfl, rfl, rfl⟩) (pv 4)))
          (pss_one (ps_if (pt_cmpR op_ne (pv 5) pe_int (nomark _)) (pss_one (ps_dput (hu1 hr) (pv 3) (pv 2) (pv 5) rfl)) (pss_one (ps_ddel (pv 3) (pv 2))))))))
      (pss_one (ps_ret (pv 3)))), ?_⟩
    refine ⟨d, _, hd.1, True.intro, fun od => ?_⟩
    have l0 : LkT d od (.dK (mpT eI T)) H (upd H d (.frz od (.dK (mpT eI T)))) := LkT.start
    generalize upd H d (.frz od (.dK (mpT eI T))) = F0 at l0 ⊢
    refine ⟨_, rfl, d, od, rfl, .inl ⟨_, l0.1, fun D nD => ?_⟩⟩
    have Dd : D ≠ d := fun z => by rw [z, l0.1] at nD; cases nD
    have HD : H D = none := by
      cases q : H D with
      | none => rfl
      | some o => rw [l0.2 _ _ Dd q] at nD; cases nD
    refine blk_n (o := fun D => .dK []) (n := (mpT eI T).length) (fun (i : Nat) (G : Hp) => LkT d od (.dK (mpT eI T)) H G ∧ G D = some (.dK (mpT eI (T.take i))))
      ⟨l0.new nD, upd_same⟩ (fun i G hi ⟨l, _⟩ => ⟨l.1, hi⟩) (fun G ⟨l, _⟩ => ⟨l.1, Nat.le_refl _⟩) (fun i G x F' hi ⟨l, h1⟩ hy => ?_) (fun G ⟨l, h1⟩ => ?_)
    · obtain ⟨rfl, kk, v, hkv, rfl⟩ := hy
      obtain ⟨y, hy, rfl, rfl⟩ := at_mpT hkv
      have gd : DGet F' d (kV (eI y.1)) (valV (mpT eI T) (eI y.1)) := .inl ⟨_, _, .inr ⟨od, l.1⟩, rfl, rfl⟩
      have ev : valV (mpT eI T) (eI y.1) = some (.int y.2) := by rw [valV_mpT eI_inj, (valT_mem hd.2).mpr (show (y.1, y.2) ∈ T from List.mem_of_getElem? hy)]; rfl
      rw [ev] at gd
      refine ⟨rfl, _, rfl, _, rfl, _, rfl, d, _, rfl, gd, _, eI y.1, rfl, h1, by rw [len_mpT, List.length_take]; omega, l.set Dd HD, ?_⟩
      rw [upd_same, putK_mpT eI_inj, put_id hd.2 hy]
    · rw [len_mpT, List.take_length] at h1
      have sm := l.done hd.1
      refine ⟨l.1, ?_⟩
      have hD2 : upd G d (.dK (mpT eI T)) D = some (.dK (mpT eI T)) := (upd_ne Dd).trans h1
      generalize upd G d (.dK (mpT eI T)) = G1 at sm hD2 ⊢
      have eD : e ≠ D := ne_of_none he.1 HD
      refine ⟨e, _, sm _ _ he.1, True.intro, fun oe => ?_⟩
      have lE : LkT e oe (.dK (mpT eI S)) H (upd G1 e (.frz oe (.dK (mpT eI S)))) := ⟨upd_same, fun a o ne q => (upd_ne ne).trans (sm a o q)⟩
      have gD : upd G1 e (.frz oe (.dK (mpT eI S))) D = some (.dK (mpT eI T)) := (upd_ne (Ne.symm eD)).trans hD2
      generalize upd G1 e (.frz oe (.dK (mpT eI S))) = F1 at lE gD ⊢
      refine ⟨_, rfl, e, oe, _, rfl, lE.1, for_n (n := (mpT eI S).length) (fun (i : Nat) (σ : L2.St) (F : Hp) => ∃ u2 u4 u5 : Option V, σ = [some (.ref d), some (.ref e), u2, some (.ref D), u4, u5] ∧ LkT e oe (.dK (mpT eI S)) H F ∧ F D = some (.dK (mpT eI (plusT T (S.take i)))))
        ⟨_, _, _, rfl, lE, gD⟩ (fun i σ F hi ⟨_, _, _, _, l, _⟩ => ⟨l.1, hi⟩) (fun σ F ⟨_, _, _, _, l, _⟩ => ⟨l.1, Nat.le_refl _⟩) (fun i σ F x F' hi ⟨u2, u4, u5, hσ, l, h1⟩ hy => ?_) (fun σ F ⟨u2, u4, u5, hσ, l, h1⟩ => ?_)⟩
      · subst hσ
        obtain ⟨t, kk, v, hkv, rfl, nt, rfl⟩ := hy
        obtain ⟨y, hy, rfl, rfl⟩ := at_mpT hkv
        have l2 := l.new (o := .tup [kV (eI y.1), .int y.2]) nt
        have ht : upd F t (.tup [kV (eI y.1), .int y.2]) t = some (.tup [kV (eI y.1), .int y.2]) := upd_same
        have h2 : upd F t (.tup [kV (eI y.1), .int y.2]) D = some (.dK (mpT eI (plusT T (S.take i)))) := (upd_ne (ne_of_none h1 nt)).trans h1
        generalize upd F t (.tup [kV (eI y.1), .int y.2]) = G2 at l2 ht h2 ⊢
        have g1 := DGet.k (k := eI y.1) h2
        have lp := len_plusT (S.take i) T
        rw [List.length_take] at lp
        have iS : i < S.length := (List.getElem?_eq_some_iff.mp hy).1
        refine ⟨t, _, rfl, SqT.of ht, rfl, _, _, rfl, _, _, rfl, rfl, ?_⟩
        refine ⟨_, rfl, D, rfl, .inl ⟨_, .inl h2⟩, _, rfl, _, g1, ?_⟩
        rw [getD_mp]
        refine ⟨_, rfl, _, _, rfl, rfl, _, rfl, rfl, _, rfl, ?_⟩
        have next := plusT_take hy T
        have yz := nz y (List.mem_of_getElem? hy)
        by_cases z : getT (plusT T (S.take i)) y.1 + y.2 = 0
        · refine ifN (by simp [z]) ?_
          have sm' : (valV (mpT eI (plusT T (S.take i))) (eI y.1)).isSome = true := by
            rw [isSome_mpT]
            unfold getT at z
            cases q : valT (plusT T (S.take i)) y.1 with
            | none => rw [q] at z; exact absurd (by simpa using z) yz
            | some v => rfl
          refine ⟨_, rfl, _, rfl, D, _, eI y.1, rfl, h2, rfl, sm', _, _, _, rfl, l2.set (Ne.symm eD) HD, ?_⟩
          rw [upd_same, dropK_mpT, next]
          unfold plusO
          rw [if_neg fun q => q z]
        · refine ifY (by simp [z]) ?_
          refine ⟨_, rfl, _, rfl, _, rfl, D, _, rfl, DPut.k (k := eI y.1) h2 (by rw [len_mpT]; omega), ?_⟩
          rw [putK_mpT eI_inj]
          refine ⟨_, _, _, rfl, l2.set (Ne.symm eD) HD, ?_⟩
          rw [upd_same, next]
          unfold plusO
          rw [if_pos z]
      · subst hσ
        rw [len_mpT, List.take_length] at h1
        exact ⟨l.1, _, rfl, go D _ (l.done he.1) HD ((upd_ne (Ne.symm eD)).trans h1)⟩
theorem ok_plus2 {f : Addr} {fd : FuncData} (F : Fun K "plus" "plus" sPlus f fd) : FnOk P w K mg base CX0 1 f fd ["p", "q"] (spOp2 .add) :=
  fn_imp (ok_plu F) fun vs H Q E ⟨u, v, a, b, ev, ⟨d, T, eu, hd, rT⟩, ⟨e, S, ew, he, rS⟩, ⟨_, _, m, n, fm, fn, mn⟩, go⟩ => by
    subst eu ew
    have h1 := fm T rT
    have h2 := fn S rS
    refine ⟨d, e, T, S, ev, hd, he, by omega, rS.nz, fun r G s n e => ?_⟩
    have ra := rep_add rT rS
    exact go (.ref r) G s ⟨r, _, rfl, ⟨e, ra.nd⟩, ra⟩
theorem scMinus : FnScope ["p", "q"] ["p", "q"] (defScope sMinus) := ⟨rfl, rfl, rfl, by decide +kernel, rfl, by decide +kernel, by decide +kernel⟩
theorem fn_sub {fP fS : Addr} {dP dS : FuncData} {f : Addr} {fd : FuncData} (F : Fun K "minus" "minus" sMinus f fd) (GP : FnOk P w K mg base CX0 1 fP dP ["p", "q"] spPlu) (bP : Binds K dP ["p", "q"] []) (gP : mg "plus_tables" = some (.ref fP)) (kP : PySem.W.keepIn K (.ref fP) = true)
    (GS : FnOk P w K mg base CX0 1 fS dS ["p", "k"] spScl) (bS : Binds K dS ["p", "k"] []) (gS : mg "scaled_tables" = some (.ref fS)) (kS : PySem.W.keepIn K (.ref fS) = true) : FnOk P w K mg base CX0 2 f fd ["p", "q"] (spOp2 .sub) := by
  refine F.ok scMinus (fun vs H Q E h => ?_) (fun cdv A outer s H vs Q E hr h => ?_)
  · obtain ⟨u, v, a, b, rfl, _⟩ := h
    rfl
  · obtain ⟨u, v, a, b, rfl, ⟨d, T, rfl, hd, rT⟩, ⟨e, S, rfl, he, rS⟩, ⟨_, fb, m, n, fm, fn, mn⟩, go⟩ := h
    refine ⟨_, pss_one (ps_ret (pe_call GP hr rfl gP kP bP .nil pass0 (pa_cons (pv 0) (pa_cons (pe_call GS hr rfl gS kS bS .nil pass0 (pa_cons (pv 1) (pa_cons (pe_un un_neg pe_int) pa_nil))) pa_nil)))), ?_⟩
    have h1 := fm T rT
    have h2 := fn S rS
    have fs : Few n (.scl b (-1)) := fun R r => by
      have q : Rep (R.map fun x => (x.1, x.2 * -1)) b := ⟨fun x hx => by
          obtain ⟨y, hy, rfl⟩ := List.mem_map.mp hx
          have := r.nz y hy
          show y.2 * -1 ≠ 0
          omega, by rw [List.map_map]; exact r.nd, fun j => by
          rw [tot_sc, r.tot]
          show tot ((tabX b).map fun x => (x.1, x.2 * -1)) j * -1 = _
          rw [tot_sc]
          omega⟩
      have := fn _ q
      rw [List.length_map] at this
      exact this
    refine ⟨_, rfl, _, rfl, _, rfl, .ref e, -1, b, rfl, ⟨e, S, rfl, he, rS⟩, ⟨fb, ⟨n, fn, by omega⟩, by decide, by decide⟩, fun u G1 s1 t1 => ?_⟩
    obtain ⟨c, R, rfl, hc, rR⟩ := t1
    have h3 := fs R rR
    refine ⟨d, c, T, R, rfl, hd.up s1, hc, by omega, rR.nz, fun r G2 s2 n2 e2 => ?_⟩
    have ra := rep_add rT rR
    have rs : Rep (plusT T R) (.sub a b) := ⟨ra.nz, ra.nd, fun j => by
      rw [ra.tot]
      show tot (tabX a ++ (tabX b).map fun x => (x.1, x.2 * -1)) j = tot (tabX a ++ negT (tabX b)) j
      rfl⟩
    exact go (.ref r) G2 (s1.trans s2) ⟨r, _, rfl, ⟨e2, rs.nd⟩, rs⟩
theorem bits_of {T : KI} {e : Px} (r : Rep T e) (h : norm e < 2 ^ 400000) : Bits 400000 T := fun x hx => Nat.lt_of_le_of_lt (r.bits x hx) h
theorem ok_tim {f : Addr} {fd : FuncData} (G : FnOk P w K mg base CX0 3 f fd ["p", "q"] spTimes) : FnOk P w K mg base CX0 3 f fd ["p", "q"] (spOp2 .mul) :=
  fn_imp G fun vs H Q E ⟨u, v, a, b, ev, ⟨d, T, eu, hd, rT⟩, ⟨e, S, ew, he, rS⟩, ⟨_, _, ⟨m, n, fm, fn, mn, ms, ns⟩, na, nb⟩, go⟩ => by
    subst eu ew
    have h1 := fm T rT
    have h2 := fn S rS
    have h3 := Nat.mul_le_mul h1 h2
    exact ⟨d, e, T, S, 400000, 400000, ev, hd, he, by omega, by omega, by omega, bits_of rT na, bits_of rS nb, by decide, by decide, by decide, fun r R G s n t p => go (.ref r) G s ⟨r, R, rfl, t, rep_mul rT rS p t.2⟩⟩
end
end CN

set_option Elab.async false
set_option linter.all false
set_option maxRecDepth 100000
set_option maxHeartbeats 4000000
set_option autoImplicit false
set_option pp.maxSteps 300
/-! Tables' methods; how expressions come to tables; three tables, a point. -/
namespace CN
open PySem L2 K1D K2P
/-- a function's call by its name; a method's -/
structure CallT (P : Program) (w : World) (K : PySem.W.Frag) (mg : Str → Option Value) (base : Heap) (CX : CXT) (k : Nat) (x : Str) (ps : List Str) (sp : Sp) (f : Addr) (d : FuncData) : Prop where
  ok : FnOk P w K mg base CX k f d ps sp
  b : Binds K d ps []
  g : mg x = some (.ref f)
  k : PySem.W.keepIn K (.ref f) = true
structure MethT (P : Program) (w : World) (K : PySem.W.Frag) (mg : Str → Option Value) (base : Heap) (CX : CXT) (C : Addr) (k : Nat) (x : Str) (ps : List Str) (sp : Sp) (f : Addr) (d : FuncData) : Prop where
  ok : FnOk P w K mg base CX k f d ps sp
  b : Binds K d ps []
  m : Meth K C x f
abbrev sRing (i : Nat) : Stmt := inClass (K2P.top 55) i
def RingAt (C : Addr) (H : Hp) (v : V) : Prop := ∃ ρ dx, v = .ref ρ ∧ H ρ = some (.ins C dx [])
theorem RingAt.up {C : Addr} {H G : Hp} {v : V} (h : RingAt C H v) (s : Same H G) : RingAt C G v := by
  obtain ⟨ρ, dx, e, h⟩ := h
  exact ⟨ρ, dx, e, s _ _ h⟩
def spR2 (op : Px → Px → Px) : Sp := fun vs H Q _ => ∃ (z u v : V) (a b : Px), vs = [z, u, v] ∧ TabE H u a ∧ TabE H v b ∧ Fine (op a b) ∧ ∀ (x : V) (G : Hp), Same H G → TabE G x (op a b) → Q x G
def spRS : Sp := fun vs H Q _ => ∃ (z u : V) (k : Int) (a : Px), vs = [z, u, .int k] ∧ TabE H u a ∧ Fine (.scl a k) ∧ ∀ (x : V) (G : Hp), Same H G → TabE G x (.scl a k) → Q x G
def spRN : Sp := fun vs H Q _ => ∃ (z : V) (k : Int), vs = [z, .int k] ∧ ∀ (x : V) (G : Hp), Same H G → TabE G x (.num k) → Q x G
section
variable {P : Program} {w : World} {K : PySem.W.Frag} {mg : Str → Option Value} {base : Heap}
theorem scR0 : FnScope ["self", "k"] ["self", "k"] (defScope (sRing 0)) := ⟨rfl, rfl, rfl, by decide +kernel, rfl, by decide +kernel, by decide +kernel⟩
theorem scR1 : FnScope ["self", "p", "k"] ["self", "p", "k"] (defScope (sRing 1)) := ⟨rfl, rfl, rfl, by decide +kernel, rfl, by decide +kernel, by decide +kernel⟩
theorem scR2 : FnScope ["self", "p", "q"] ["self", "p", "q"] (defScope (sRing 2)) := ⟨rfl, rfl, rfl, by decide +kernel, rfl, by decide +kernel, by decide +kernel⟩
theorem scR3 : FnScope ["self", "p", "q"] ["self", "p", "q"] (defScope (sRing 3)) := ⟨rfl, rfl, rfl, by decide +kernel, rfl, by decide +kernel, by decide +kernel⟩
theorem scR4 : FnScope ["self", "p", "q"] ["self", "p", "q"] (defScope (sRing 4)) := ⟨rfl, rfl, rfl, by decide +kernel, rfl, by decide +kernel, by decide +kernel⟩
theorem ok_r0 {f g : Addr} {fd gd : FuncData} (F : Fun K "number" "Tables.number" (sRing 0) f fd) (U : CallT P w K mg base CX0 1 "number_tables" ["k"] spNum g gd) : FnOk P w K mg base CX0 4 f fd ["self", "k"] spRN := by
  refine F.ok scR0 (fun vs H Q E h => ?_) (fun cdv A outer s H vs Q E hr h => ?_)
  · obtain ⟨z, k, rfl, _⟩ := h
    rfl
  · obtain ⟨z, k, rfl, go⟩ := h
    refine ⟨_, pss_one (ps_ret (pe_call U.ok (hr.mono (by decide)) rfl U.g U.k U.b .nil pass0 (pa_cons (pv 1) pa_nil))), ?_⟩
    exact ⟨_, rfl, k, rfl, go⟩
theorem ok_r1 {f g : Addr} {fd gd : FuncData} (F : Fun K "scaled" "Tables.scaled" (sRing 1) f fd) (U : CallT P w K mg base CX0 1 "scaled_tables" ["p", "k"] spScl g gd) : FnOk P w K mg base CX0 4 f fd ["self", "p", "k"] spRS := by
  refine F.ok scR1 (fun vs H Q E h => ?_) (fun cdv A outer s H vs Q E hr h => ?_)
  · obtain ⟨z, u, k, a, rfl, _⟩ := h
    rfl
  · obtain ⟨z, u, k, a, rfl, tu, fi, go⟩ := h
    refine ⟨_, pss_one (ps_ret (pe_call U.ok (hr.mono (by decide)) rfl U.g U.k U.b .nil pass0 (pa_cons (pv 1) (pa_cons (pv 2) pa_nil)))), ?_⟩
    exact ⟨_, rfl, _, rfl, u, k, a, rfl, tu, fi, go⟩
theorem ok_r2 {f g : Addr} {fd gd : FuncData} (F : Fun K "plus" "Tables.plus" (sRing 2) f fd) (U : CallT P w K mg base CX0 1 "plus_tables" ["p", "q"] (spOp2 .add) g gd) : FnOk P w K mg base CX0 4 f fd ["self", "p", "q"] (spR2 .add) := by
  refine F.ok scR2 (fun vs H Q E h => ?_) (fun cdv A outer s H vs Q E hr h => ?_)
  · obtain ⟨z, u, v, a, b, rfl, _⟩ := h
    rfl
  · obtain ⟨z, u, v, a, b, rfl, tu, tv, fi, go⟩ := h
    refine ⟨_, pss_one (ps_ret (pe_call U.ok (hr.mono (by decide)) rfl U.g U.k U.b .nil pass0 (pa_cons (pv 1) (pa_cons (pv 2) pa_nil)))), ?_⟩
    exact ⟨_, rfl, _, rfl, u, v, a, b, rfl, tu, tv, fi, go⟩
theorem ok_r3 {f g : Addr} {fd gd : FuncData} (F : Fun K "minus" "Tables.minus" (sRing 3) f fd) (U : CallT P w K mg base CX0 2 "minus_tables" ["p", "q"] (spOp2 .sub) g gd) : FnOk P w K mg base CX0 4 f fd ["self", "p", "q"] (spR2 .sub) := by
  refine F.ok scR3 (fun vs H Q E h => ?_) (fun cdv A outer s H vs Q E hr h => ?_)
  · obtain ⟨z, u, v, a, b, rfl, _⟩ := h
    rfl
  · obtain ⟨z, u, v, a, b, rfl, tu, tv, fi, go⟩ := h
    refine ⟨_, pss_one (ps_ret (pe_call U.ok (hr.mono (by decide)) rfl U.g U.k U.b .nil pass0 (pa_cons (pv 1) (pa_cons (pv 2) pa_nil)))), ?_⟩
    exact ⟨_, rfl, _, rfl, u, v, a, b, rfl, tu, tv, fi, go⟩
theorem ok_r4 {f g : Addr} {fd gd : FuncData} (F : Fun K "times" "Tables.times" (sRing 4) f fd) (U : CallT P w K mg base CX0 3 "times_tables" ["p", "q"] (spOp2 .mul) g gd) : FnOk P w K mg base CX0 4 f fd ["self", "p", "q"] (spR2 .mul) := by
  refine F.ok scR4 (fun vs H Q E h => ?_) (fun cdv A outer s H vs Q E hr h => ?_)
  · obtain ⟨z, u, v, a, b, rfl, _⟩ := h
    rfl
  · obtain ⟨z, u, v, a, b, rfl, tu, tv, fi, go⟩ := h
    refine ⟨_, pss_one (ps_ret (pe_call U.ok hr rfl U.g U.k U.b .nil pass0 (pa_cons (pv 1) (pa_cons (pv 2) pa_nil)))), ?_⟩
    exact ⟨_, rfl, _, rfl, u, v, a, b, rfl, tu, tv, fi, go⟩
end
/-! ### expressions that come to tables -/
/-- the expression comes to a table of e, at every later heap -/
def EvT (σ : L2.St) (H : Hp) (t : TE) (e : Px) : Prop := ∀ G, Same H G → ∀ Q : VK, (∀ v F, Same G F → TabE F v e → Q v F) → t σ G Q
section
variable {σ : L2.St} {H G : Hp} {t t1 t2 : TE} {a b e : Px} {i j : Nat} {v : V} {C : Addr} {m : Str}
theorem EvT.up (h : EvT σ H t e) (s : Same H G) : EvT σ G t e := fun F s1 Q go => h F (s.trans s1) Q go
theorem ev_var (hs : σ[i]? = some (some v)) (h : TabE H v e) : EvT σ H (tVar i) e := fun G s Q go => ⟨v, hs, go v G (Same.refl G) (h.up s)⟩
theorem ev_op {op : Px → Px → Px} (hs : σ[i]? = some (some v)) (hr : RingAt C H v) (n : ([] : List (Str × V)).lookup m = none := by rfl) (h1 : EvT σ H t1 a) (h2 : EvT σ H t2 b) (f : Fine (op a b)) : EvT σ H (tMeth C m (spR2 op) [] E0 (tVar i) (tCons t1 (tCons t2 tNil))) (op a b) := fun G s Q go => by
  obtain ⟨ρ, dx, rfl, hρ⟩ := hr
  refine ⟨_, hs, ρ, dx, [], rfl, s _ _ hρ, n, h1 G s _ fun u F s1 tu => h2 F (s.trans s1) _ fun w F2 s2 tw => ?_⟩
  exact ⟨_, u, w, a, b, rfl, tu.up s2, tw, f, fun x F3 s3 tx => go x F3 (s1.trans (s2.trans s3)) tx⟩
/-- a number that stands -/
def EvI (σ : L2.St) (t : TE) (k : Int) : Prop := ∀ (G : Hp) (Q : VK), Q (.int k) G → t σ G Q
theorem evi_c {k : Int} : EvI σ (tC (.int k)) k := fun G Q h => h
theorem evi_v {k : Int} (hs : σ[i]? = some (some (.int k))) : EvI σ (tVar i) k := fun G Q h => ⟨_, hs, h⟩
theorem evi_neg {k : Int} (h : EvI σ t k) : EvI σ (tUn (rU fun i => .int (-i)) t) (-k) := fun G Q q => h G _ ⟨k, rfl, q⟩
theorem ev_scl {k : Int} (hs : σ[i]? = some (some v)) (hr : RingAt C H v) (n : ([] : List (Str × V)).lookup m = none := by rfl) (h1 : EvT σ H t1 a) (h2 : EvI σ t2 k) (f : Fine (.scl a k)) : EvT σ H (tMeth C m spRS [] E0 (tVar i) (tCons t1 (tCons t2 tNil))) (.scl a k) := fun G s Q go => by
  obtain ⟨ρ, dx, rfl, hρ⟩ := hr
  refine ⟨_, hs, ρ, dx, [], rfl, s _ _ hρ, n, h1 G s _ fun u F s1 tu => h2 F _ ?_⟩
  exact ⟨_, u, k, a, rfl, tu, f, fun x F3 s3 tx => go x F3 (s1.trans s3) tx⟩
theorem ev_num {k : Int} (hs : σ[i]? = some (some v)) (hr : RingAt C H v) (n : ([] : List (Str × V)).lookup m = none := by rfl) (h2 : EvI σ t2 k) : EvT σ H (tMeth C m spRN [] E0 (tVar i) (tCons t2 tNil)) (.num k) := fun G s Q go => by
  obtain ⟨ρ, dx, rfl, hρ⟩ := hr
  exact ⟨_, hs, ρ, dx, [], rfl, s _ _ hρ, n, h2 G _ ⟨_, k, rfl, go⟩⟩
end
/-! ### points -/
structure P3 where
  x : Px
  y : Px
  w : Px
def P3.at (p : P3) (k : Nat) : Px := if k = 0 then p.x else if k = 1 then p.y else p.w
structure Fine3 (p : P3) : Prop where
  x : Fine p.x
  y : Fine p.y
  w : Fine p.w
theorem Fine3.at {p : P3} (h : Fine3 p) (k : Nat) : Fine (p.at k) := by
  unfold P3.at
  split
  · exact h.x
  · split
    · exact h.y
    · exact h.w
def TripE (H : Hp) (v : V) (p : P3) : Prop := ∃ t u0 u1 u2, v = .ref t ∧ H t = some (.tup [u0, u1, u2]) ∧ TabE H u0 p.x ∧ TabE H u1 p.y ∧ TabE H u2 p.w
theorem TripE.up {H G : Hp} {v : V} {p : P3} (h : TripE H v p) (s : Same H G) : TripE G v p := by
  obtain ⟨t, u0, u1, u2, e, h0, h1, h2, h3⟩ := h
  exact ⟨t, u0, u1, u2, e, s _ _ h0, h1.up s, h2.up s, h3.up s⟩
/-- the expression comes to a point -/
def EvP (σ : L2.St) (H : Hp) (t : TE) (p : P3) : Prop := ∀ G, Same H G → ∀ Q : VK, (∀ v F, Same G F → TripE F v p → Q v F) → t σ G Q
section
variable {K : PySem.W.Frag} {σ : L2.St} {H G : Hp} {t t0 t1 t2 t3 t4 : TE} {p q r s4 : P3} {e a b c : Px} {i j : Nat} {v : V} {C : Addr}
theorem EvP.up (h : EvP σ H t p) (s : Same H G) : EvP σ G t p := fun F s1 Q go => h F (s.trans s1) Q go
theorem evp_var (hs : σ[i]? = some (some v)) (h : TripE H v p) : EvP σ H (tVar i) p := fun G s Q go => ⟨v, hs, go v G (Same.refl G) (h.up s)⟩
/-- p[k] -/
theorem ev_ix {k : Nat} (k3 : k < 3) (h : EvP σ H t p) (hk : EvI σ t2 (k : Int)) : EvT σ H (tOp (rIxT K) t t2) (p.at k) := fun G s Q go => h G s _ fun v F s1 tv => hk F _ (by
  obtain ⟨t, u0, u1, u2, rfl, h0, h1, h2, h3⟩ := tv
  match k, k3 with
  | 0, _ => exact ⟨t, _, _, u0, rfl, rfl, SqT.of h0, atI_nat rfl, go u0 F s1 h1⟩
  | 1, _ => exact ⟨t, _, _, u1, rfl, rfl, SqT.of h0, atI_nat rfl, go u1 F s1 h2⟩
  | 2, _ => exact ⟨t, _, _, u2, rfl, rfl, SqT.of h0, atI_nat rfl, go u2 F s1 h3⟩)
theorem evp_tup (h0 : EvT σ H t0 p.x) (h1 : EvT σ H t1 p.y) (h2 : EvT σ H t2 p.w) : EvP σ H (tTup (tCons t0 (tCons t1 (tCons t2 tNil)))) p := fun G s Q go =>
  h0 G s _ fun u0 F0 s0 e0 => h1 F0 (s.trans s0) _ fun u1 F1 s1 e1 => h2 F1 (s.trans (s0.trans s1)) _ fun u2 F2 s2 e2 => ⟨by show 3 ≤ sizeLine; decide, fun d nd => by
    have s3 : Same F2 (upd F2 d (.tup [u0, u1, u2])) := same_new nd
    exact go (.ref d) _ (s0.trans (s1.trans (s2.trans s3))) ⟨d, u0, u1, u2, rfl, upd_same, e0.up (s1.trans (s2.trans s3)), e1.up (s2.trans s3), e2.up s3⟩⟩
/-! statements -/
theorem st_asg {D : Ends} {rest : TS} (h : EvT σ H t e) (go : ∀ v G, Same H G → TabE G v e → rest D (σ.set i (some v)) G) : (tSeq (tAsg t (gName i)) rest) D σ H := h H (Same.refl H) _ fun v F s1 tv => go v F s1 tv
theorem st_asgp {D : Ends} {rest : TS} (h : EvP σ H t p) (go : ∀ v G, Same H G → TripE G v p → rest D (σ.set i (some v)) G) : (tSeq (tAsg t (gName i)) rest) D σ H := h H (Same.refl H) _ fun v F s1 tv => go v F s1 tv
theorem TabE.set {D : Addr} {xs ys : List V} (h : TabE H v e) (hD : H D = some (.lst xs)) : TabE (upd H D (.lst ys)) v e := by
  obtain ⟨d, T, e1, ⟨h1, h2⟩, h3⟩ := h
  exact ⟨d, T, e1, ⟨(upd_ne fun z => by rw [z, hD] at h1; cases h1).trans h1, h2⟩, h3⟩
/-- [e for at in range(2)] -/
theorem lc_two {te : TE} {f : Nat → Px} {Q : VK} (hw : ∀ k : Int, wipe ((wipe σ [j]).set j (some (.int k))) [j] = wipe σ [j]) (he : ∀ k : Nat, k < 2 → EvT ((wipe σ [j]).set j (some (.int (k : Int)))) H te (f k))
    (go : ∀ D G u0 u1, Same H G → G D = some (.lst [u0, u1]) → TabE G u0 (f 0) → TabE G u1 (f 1) → Q (.ref D) G) : (tLc (iRng1 (tCons (tC (.int 2)) tNil)) (gName j) tYes te [j]) σ H Q := by
  refine ⟨2, rfl, by decide, by decide, fun D nD => ?_⟩
  refine lc_it (walk_range (lo := 0) (n := 2)) (fun (i : Nat) (G : Hp) => Same H G ∧ ∃ us : List V, G D = some (.lst us) ∧ us.length = i ∧ ∀ k u, us[k]? = some u → TabE G u (f k)) ⟨same_new nD, [], upd_same, rfl, fun k u h => by simp at h⟩ (fun _ _ _ _ => trivial) (fun i x G G' hi ⟨s, us, h1, h2, h3⟩ ⟨e1, ev⟩ => ?_) (fun G ⟨s, us, h1, h2, h3⟩ => ?_)
  · subst e1 ev
    have z : ((0 : Int) + (i : Int)) = (i : Int) := by omega
    show (gName j (.int (0 + (i : Int))) (wipe σ [j]) G' _)
    rw [z]
    refine ⟨hw _, he i hi G' s _ fun v F s1 tv => ?_⟩
    refine ⟨us, s1 _ _ h1, by rw [h2, sizeLine_eq]; omega, fun b o q => (upd_ne (ne_of_none q nD)).trans (s1 _ _ (s _ _ q)), us ++ [v], upd_same, by rw [List.length_append, h2]; rfl, fun k u hk => ?_⟩
    by_cases kl : k < us.length
    · rw [List.getElem?_append_left kl] at hk
      exact ((h3 k u hk).up s1).set (s1 _ _ h1)
    · rw [List.getElem?_append_right (by omega)] at hk
      have k0 : k - us.length = 0 := by
        have := (List.getElem?_eq_some_iff.mp hk).1
        simp at this
        omega
      rw [k0] at hk
      cases hk
      have : k = i := by omega
      rw [this]
      exact tv.set (s1 _ _ h1)
  · match us, h2 with
    | [u0, u1], _ => exact go D G u0 u1 s h1 (h3 0 u0 rfl) (h3 1 u1 rfl)
theorem st_two {te : TE} {f : Nat → Px} {D : Ends} {rest : TS} (hw : ∀ k : Int, wipe ((wipe σ [j]).set j (some (.int k))) [j] = wipe σ [j]) (he : ∀ k : Nat, k < 2 → EvT ((wipe σ [j]).set j (some (.int (k : Int)))) H te (f k))
    (go : ∀ l G u0 u1, Same H G → G l = some (.lst [u0, u1]) → TabE G u0 (f 0) → TabE G u1 (f 1) → rest D (σ.set i (some (.ref l))) G) : (tSeq (tAsg (tLc (iRng1 (tCons (tC (.int 2)) tNil)) (gName j) tYes te [j]) (gName i)) rest) D σ H := lc_two (Q := fun x H1 => rest D (σ.set i (some x)) H1) hw he go
theorem ev_lix {l : Addr} {us : List V} {k : Nat} {u : V} (hs : σ[i]? = some (some (.ref l))) (hl : H l = some (.lst us)) (hu : us[k]? = some u) (h : TabE H u e) : EvT σ H (tOp (rIxL K) (tVar i) (tC (.int (k : Int)))) e := fun G s Q go =>
  ⟨_, hs, l, us, _, u, rfl, rfl, SqL.of (s _ _ hl), atI_nat hu, go u G (Same.refl G) (h.up s)⟩
end
end CN

set_option Elab.async false
set_option linter.all false
set_option maxRecDepth 100000
set_option maxHeartbeats 8000000
set_option autoImplicit false
set_option pp.maxSteps 300
/-! figurehold.making: the makers. -/
namespace CN
open PySem L2 K1D K2P
abbrev sDif : Stmt := K2P.top 26
abbrev sPlaced : Stmt := K2P.top 27
abbrev sSlid : Stmt := K2P.top 28
abbrev sParted : Stmt := K2P.top 29
abbrev sMoved : Stmt := K2P.top 30
abbrev sShifted : Stmt := K2P.top 31
abbrev sTurned : Stmt := K2P.top 32
abbrev sBeyond : Stmt := K2P.top 33
abbrev sFoot : Stmt := K2P.top 34
abbrev sMirrored : Stmt := K2P.top 35
abbrev sSecond : Stmt := K2P.top 36
abbrev sCrossed : Stmt := K2P.top 37
abbrev sMeet : Stmt := K2P.top 38
abbrev sCentre : Stmt := K2P.top 39
/-! ### what they make -/
def difX (a b : P3) (k : Nat) : Px := .sub (.mul (b.at k) a.w) (.mul (a.at k) b.w)
def placedX (x y : Px) : P3 := ⟨x, y, .num 1⟩
def slidX (a b : P3) (t : Px) : P3 := ⟨.add (.mul (a.at 0) b.w) (.mul t (difX a b 0)), .add (.mul (a.at 1) b.w) (.mul t (difX a b 1)), .mul a.w b.w⟩
def partX (a b : P3) (n d : Int) : P3 := ⟨.add (.scl (.mul (a.at 0) b.w) d) (.scl (difX a b 0) n), .add (.scl (.mul (a.at 1) b.w) d) (.scl (difX a b 1) n), .scl (.mul a.w b.w) d⟩
def movedX (q : P3) (across up weight : Px) : P3 := ⟨.add (.mul q.x weight) (.mul q.w across), .add (.mul q.y weight) (.mul q.w up), .mul q.w weight⟩
def shiftX (q a b : P3) : P3 := movedX q (difX a b 0) (difX a b 1) (.mul a.w b.w)
def turnX (q a b : P3) : P3 := movedX q (.scl (difX a b 1) (-1)) (difX a b 0) (.mul a.w b.w)
def overX (q c : P3) : P3 := ⟨.sub (.scl (.mul (c.at 0) q.w) 2) (.mul (q.at 0) c.w), .sub (.scl (.mul (c.at 1) q.w) 2) (.mul (q.at 1) c.w), .mul c.w q.w⟩
def squareX (a b : P3) : Px := .add (.mul (difX a b 0) (difX a b 0)) (.mul (difX a b 1) (difX a b 1))
def alongX (q a b : P3) : Px := .add (.mul (difX a q 0) (difX a b 0)) (.mul (difX a q 1) (difX a b 1))
def footX (q a b : P3) : P3 := ⟨.add (.mul a.x (.mul q.w (squareX a b))) (.mul (alongX q a b) (difX a b 0)), .add (.mul a.y (.mul q.w (squareX a b))) (.mul (alongX q a b) (difX a b 1)), .mul a.w (.mul q.w (squareX a b))⟩
def mirrorX (q a b : P3) : P3 := overX q (footX q a b)
def secondX (a b o : P3) : P3 := overX a (footX o a b)
def crossX (a b : P3) : P3 := ⟨.sub (.mul a.y b.w) (.mul a.w b.y), .sub (.mul a.w b.x) (.mul a.x b.w), .sub (.mul a.x b.y) (.mul a.y b.x)⟩
def meetX (a b c d : P3) : P3 := crossX (crossX a b) (crossX c d)
def centreX (a b c : P3) : P3 := meetX (partX a b 1 2) (turnX (partX a b 1 2) a b) (partX a c 1 2) (turnX (partX a c 1 2) a c)
theorem fine_over {q c : P3} (h : Fine3 (overX q c)) : Fine3 q ∧ Fine3 c := by
  obtain ⟨⟨⟨h1, _⟩, h2, _⟩, ⟨⟨h3, _⟩, h4, _⟩, h5, h6, _⟩ := h
  exact ⟨⟨h2.1, h4.1, h6⟩, ⟨h1.1, h3.1, h5⟩⟩
theorem fine_cross {a b : P3} (h : Fine3 (crossX a b)) : Fine3 a ∧ Fine3 b := by
  obtain ⟨⟨h1, h2, _⟩, ⟨h3, h4, _⟩, h5, h6, _⟩ := h
  exact ⟨⟨h4.1, h1.1, h2.1⟩, ⟨h3.2.1, h2.2.1, h1.2.1⟩⟩
theorem fine_meet {a b c d : P3} (h : Fine3 (meetX a b c d)) : Fine3 (crossX a b) ∧ Fine3 (crossX c d) := fine_cross h
theorem fine_turn {q a b : P3} (h : Fine3 (turnX q a b)) : Fine3 q := by
  obtain ⟨⟨h1, h2, _⟩, ⟨h3, _, _⟩, h5⟩ := h
  exact ⟨h1.1, h3.1, h5.1⟩
/-! ### promises -/
def spDif (C : Addr) : Sp := fun vs H Q _ => ∃ (z u v : V) (a b : P3) (k : Nat), vs = [z, u, v, .int k] ∧ RingAt C H z ∧ TripE H u a ∧ TripE H v b ∧ k < 2 ∧ Fine (difX a b k) ∧ ∀ (x : V) (G : Hp), Same H G → TabE G x (difX a b k) → Q x G
def spPlaced (C : Addr) : Sp := fun vs H Q _ => ∃ (z u v : V) (a b : Px), vs = [z, u, v] ∧ RingAt C H z ∧ TabE H u a ∧ TabE H v b ∧ ∀ (x : V) (G : Hp), Same H G → TripE G x (placedX a b) → Q x G
def spSlid (C : Addr) : Sp := fun vs H Q _ => ∃ (z u v t : V) (a b : P3) (e : Px), vs = [z, u, v, t] ∧ RingAt C H z ∧ TripE H u a ∧ TripE H v b ∧ TabE H t e ∧ Fine3 (slidX a b e) ∧ ∀ (x : V) (G : Hp), Same H G → TripE G x (slidX a b e) → Q x G
def spParted (C : Addr) : Sp := fun vs H Q _ => ∃ (z u v : V) (a b : P3) (n d : Int), vs = [z, u, v, .int n, .int d] ∧ RingAt C H z ∧ TripE H u a ∧ TripE H v b ∧ Fine3 (partX a b n d) ∧ ∀ (x : V) (G : Hp), Same H G → TripE G x (partX a b n d) → Q x G
def spMoved (C : Addr) : Sp := fun vs H Q _ => ∃ (z u e1 e2 e3 : V) (q : P3) (a b c : Px), vs = [z, u, e1, e2, e3] ∧ RingAt C H z ∧ TripE H u q ∧ TabE H e1 a ∧ TabE H e2 b ∧ TabE H e3 c ∧ Fine3 (movedX q a b c) ∧ ∀ (x : V) (G : Hp), Same H G → TripE G x (movedX q a b c) → Q x G
def spM2 (C : Addr) (f : P3 → P3 → P3) : Sp := fun vs H Q _ => ∃ (z u v : V) (a b : P3), vs = [z, u, v] ∧ RingAt C H z ∧ TripE H u a ∧ TripE H v b ∧ Fine3 (f a b) ∧ ∀ (x : V) (G : Hp), Same H G → TripE G x (f a b) → Q x G
def spM3 (C : Addr) (f : P3 → P3 → P3 → P3) : Sp := fun vs H Q _ => ∃ (z u v t : V) (a b c : P3), vs = [z, u, v, t] ∧ RingAt C H z ∧ TripE H u a ∧ TripE H v b ∧ TripE H t c ∧ Fine3 (f a b c) ∧ ∀ (x : V) (G : Hp), Same H G → TripE G x (f a b c) → Q x G
def spM4 (C : Addr) (f : P3 → P3 → P3 → P3 → P3) : Sp := fun vs H Q _ => ∃ (z u v t y : V) (a b c d : P3), vs = [z, u, v, t, y] ∧ RingAt C H z ∧ TripE H u a ∧ TripE H v b ∧ TripE H t c ∧ TripE H y d ∧ Fine3 (f a b c d) ∧ ∀ (x : V) (G : Hp), Same H G → TripE G x (f a b c d) → Q x G
structure RingT (P : Program) (w : World) (K : PySem.W.Frag) (mg : Str → Option Value) (base : Heap) (C f0 f1 f2 f3 f4 : Addr) (d0 d1 d2 d3 d4 : FuncData) : Prop where
  cl : Cls K C
  num : MethT P w K mg base CX0 C 4 "number" ["self", "k"] spRN f0 d0
  scl : MethT P w K mg base CX0 C 4 "scaled" ["self", "p", "k"] spRS f1 d1
  add : MethT P w K mg base CX0 C 4 "plus" ["self", "p", "q"] (spR2 .add) f2 d2
  sub : MethT P w K mg base CX0 C 4 "minus" ["self", "p", "q"] (spR2 .sub) f3 d3
  mul : MethT P w K mg base CX0 C 4 "times" ["self", "p", "q"] (spR2 .mul) f4 d4
/-! calls of defs in expressions -/
section
variable {σ : L2.St} {H G : Hp} {t t1 t2 t3 t4 tk : TE} {p q r s4 : P3} {e a b c : Px} {i j k : Nat} {v z : V} {C : Addr}
theorem ev_dif (hs : σ[i]? = some (some z)) (hr : RingAt C H z) (h1 : EvP σ H t1 p) (h2 : EvP σ H t2 q) (hk : EvI σ tk (k : Int)) (k2 : k < 2) (f : Fine (difX p q k)) : EvT σ H (tCall (spDif C) [] E0 (tCons (tVar i) (tCons t1 (tCons t2 (tCons tk tNil))))) (difX p q k) := fun G s Q go =>
  ⟨_, hs, h1 G s _ fun u F s1 tu => h2 F (s.trans s1) _ fun w F2 s2 tw => hk F2 _ ⟨z, u, w, p, q, k, rfl, (hr.up s).up (s1.trans s2), tu.up s2, tw, k2, f, fun x F3 s3 tx => go x F3 (s1.trans (s2.trans s3)) tx⟩⟩
theorem evp_m2 {f : P3 → P3 → P3} (hs : σ[i]? = some (some z)) (hr : RingAt C H z) (h1 : EvP σ H t1 p) (h2 : EvP σ H t2 q) (fi : Fine3 (f p q)) : EvP σ H (tCall (spM2 C f) [] E0 (tCons (tVar i) (tCons t1 (tCons t2 tNil)))) (f p q) := fun G s Q go =>
  ⟨_, hs, h1 G s _ fun u F s1 tu => h2 F (s.trans s1) _ fun w F2 s2 tw => ⟨z, u, w, p, q, rfl, (hr.up s).up (s1.trans s2), tu.up s2, tw, fi, fun x F3 s3 tx => go x F3 (s1.trans (s2.trans s3)) tx⟩⟩
theorem evp_m3 {f : P3 → P3 → P3 → P3} (hs : σ[i]? = some (some z)) (hr : RingAt C H z) (h1 : EvP σ H t1 p) (h2 : EvP σ H t2 q) (h3 : EvP σ H t3 r) (fi : Fine3 (f p q r)) : EvP σ H (tCall (spM3 C f) [] E0 (tCons (tVar i) (tCons t1 (tCons t2 (tCons t3 tNil))))) (f p q r) := fun G s Q go =>
  ⟨_, hs, h1 G s _ fun u F s1 tu => h2 F (s.trans s1) _ fun w F2 s2 tw => h3 F2 (s.trans (s1.trans s2)) _ fun y F3 s3 ty => ⟨z, u, w, y, p, q, r, rfl, (hr.up s).up (s1.trans (s2.trans s3)), tu.up (s2.trans s3), tw.up s3, ty, fi, fun x F4 s4 tx => go x F4 (s1.trans (s2.trans (s3.trans s4))) tx⟩⟩
theorem evp_m4 {f : P3 → P3 → P3 → P3 → P3} (hs : σ[i]? = some (some z)) (hr : RingAt C H z) (h1 : EvP σ H t1 p) (h2 : EvP σ H t2 q) (h3 : EvP σ H t3 r) (h4 : EvP σ H t4 s4) (fi : Fine3 (f p q r s4)) : EvP σ H (tCall (spM4 C f) [] E0 (tCons (tVar i) (tCons t1 (tCons t2 (tCons t3 (tCons t4 tNil)))))) (f p q r s4) := fun G s Q go =>
  ⟨_, hs, h1 G s _ fun u F s1 tu => h2 F (s.trans s1) _ fun w F2 s2 tw => h3 F2 (s.trans (s1.trans s2)) _ fun y F3 s3 ty => h4 F3 (s.trans (s1.trans (s2.trans s3))) _ fun y4 F4 s4' ty4 =>
    ⟨z, u, w, y, y4, p, q, r, s4, rfl, (hr.up s).up (s1.trans (s2.trans (s3.trans s4'))), tu.up (s2.trans (s3.trans s4')), tw.up (s3.trans s4'), ty.up s4', ty4, fi, fun x F5 s5 tx => go x F5 (s1.trans (s2.trans (s3.trans (s4'.trans s5)))) tx⟩⟩
theorem evp_part {n d : Int} {tn td : TE} (hs : σ[i]? = some (some z)) (hr : RingAt C H z) (h1 : EvP σ H t1 p) (h2 : EvP σ H t2 q) (hn : EvI σ tn n) (hd : EvI σ td d) (fi : Fine3 (partX p q n d)) : EvP σ H (tCall (spParted C) [] E0 (tCons (tVar i) (tCons t1 (tCons t2 (tCons tn (tCons td tNil)))))) (partX p q n d) := fun G s Q go =>
  ⟨_, hs, h1 G s _ fun u F s1 tu => h2 F (s.trans s1) _ fun w F2 s2 tw => hn F2 _ (hd F2 _ ⟨z, u, w, p, q, n, d, rfl, (hr.up s).up (s1.trans s2), tu.up s2, tw, fi, fun x F3 s3 tx => go x F3 (s1.trans (s2.trans s3)) tx⟩)⟩
theorem evp_moved (hs : σ[i]? = some (some z)) (hr : RingAt C H z) (h1 : EvP σ H t1 p) (h2 : EvT σ H t2 a) (h3 : EvT σ H t3 b) (h4 : EvT σ H t4 c) (fi : Fine3 (movedX p a b c)) : EvP σ H (tCall (spMoved C) [] E0 (tCons (tVar i) (tCons t1 (tCons t2 (tCons t3 (tCons t4 tNil)))))) (movedX p a b c) := fun G s Q go =>
  ⟨_, hs, h1 G s _ fun u F s1 tu => h2 F (s.trans s1) _ fun w F2 s2 tw => h3 F2 (s.trans (s1.trans s2)) _ fun y F3 s3 ty => h4 F3 (s.trans (s1.trans (s2.trans s3))) _ fun y4 F4 s4' ty4 =>
    ⟨z, u, w, y, y4, p, a, b, c, rfl, (hr.up s).up (s1.trans (s2.trans (s3.trans s4'))), tu.up (s2.trans (s3.trans s4')), tw.up (s3.trans s4'), ty.up s4', ty4, fi, fun x F5 s5 tx => go x F5 (s1.trans (s2.trans (s3.trans (s4'.trans s5)))) tx⟩⟩
/-- a returned point -/
theorem ret_p {D : Ends} (h : EvP σ H t p) (go : ∀ v G, Same H G → TripE G v p → D.rt v G) : tRet t D σ H := h H (Same.refl H) _ go
theorem ret_t {D : Ends} (h : EvT σ H t e) (go : ∀ v G, Same H G → TabE G v e → D.rt v G) : tRet t D σ H := h H (Same.refl H) _ go
end
section
variable {P : Program} {w : World} {K : PySem.W.Frag} {mg : Str → Option Value} {base : Heap} {C f0 f1 f2 f3 f4 fD fB fF fM fP fT fX fE : Addr} {d0 d1 d2 d3 d4 dD dB dF dM dP dT dX dE : FuncData}
theorem scDif : FnScope ["ring", "a", "b", "at"] ["ring", "a", "b", "at"] (defScope sDif) := ⟨rfl, rfl, rfl, by decide +kernel, rfl, by decide +kernel, by decide +kernel⟩
theorem scPlaced : FnScope ["ring", "x", "y"] ["ring", "x", "y"] (defScope sPlaced) := ⟨rfl, rfl, rfl, by decide +kernel, rfl, by decide +kernel, by decide +kernel⟩
theorem scSlid : FnScope ["ring", "a", "b", "t", "along", "at"] ["ring", "a", "b", "t"] (defScope sSlid) := ⟨rfl, rfl, rfl, by decide +kernel, rfl, by decide +kernel, by decide +kernel⟩
theorem scParted : FnScope ["ring", "a", "b", "n", "d", "along", "at"] ["ring", "a", "b", "n", "d"] (defScope sParted) := ⟨rfl, rfl, rfl, by decide +kernel, rfl, by decide +kernel, by decide +kernel⟩
theorem scMoved : FnScope ["ring", "q", "across", "up", "weight"] ["ring", "q", "across", "up", "weight"] (defScope sMoved) := ⟨rfl, rfl, rfl, by decide +kernel, rfl, by decide +kernel, by decide +kernel⟩
theorem scShifted : FnScope ["ring", "q", "a", "b", "ux", "uy"] ["ring", "q", "a", "b"] (defScope sShifted) := ⟨rfl, rfl, rfl, by decide +kernel, rfl, by decide +kernel, by decide +kernel⟩
theorem scTurned : FnScope ["ring", "q", "a", "b", "ux", "uy"] ["ring", "q", "a", "b"] (defScope sTurned) := ⟨rfl, rfl, rfl, by decide +kernel, rfl, by decide +kernel, by decide +kernel⟩
theorem scBeyond : FnScope ["ring", "q", "c", "across", "at"] ["ring", "q", "c"] (defScope sBeyond) := ⟨rfl, rfl, rfl, by decide +kernel, rfl, by decide +kernel, by decide +kernel⟩
theorem scFoot : FnScope ["ring", "q", "a", "b", "ux", "uy", "square", "along", "weight"] ["ring", "q", "a", "b"] (defScope sFoot) := ⟨rfl, rfl, rfl, by decide +kernel, rfl, by decide +kernel, by decide +kernel⟩
theorem scMirrored : FnScope ["ring", "q", "a", "b"] ["ring", "q", "a", "b"] (defScope sMirrored) := ⟨rfl, rfl, rfl, by decide +kernel, rfl, by decide +kernel, by decide +kernel⟩
theorem scSecond : FnScope ["ring", "a", "b", "o"] ["ring", "a", "b", "o"] (defScope sSecond) := ⟨rfl, rfl, rfl, by decide +kernel, rfl, by decide +kernel, by decide +kernel⟩
theorem scCrossed : FnScope ["ring", "one", "other"] ["ring", "one", "other"] (defScope sCrossed) := ⟨rfl, rfl, rfl, by decide +kernel, rfl, by decide +kernel, by decide +kernel⟩
theorem scMeet : FnScope ["ring", "a", "b", "c", "d"] ["ring", "a", "b", "c", "d"] (defScope sMeet) := ⟨rfl, rfl, rfl, by decide +kernel, rfl, by decide +kernel, by decide +kernel⟩
theorem scCentre : FnScope ["ring", "a", "b", "c", "m", "k"] ["ring", "a", "b", "c"] (defScope sCentre) := ⟨rfl, rfl, rfl, by decide +kernel, rfl, by decide +kernel, by decide +kernel⟩
theorem ok_dif {f : Addr} {fd : FuncData} (F : Fun K "difference" "difference" sDif f fd) (R : RingT P w K mg base C f0 f1 f2 f3 f4 d0 d1 d2 d3 d4) : FnOk P w K mg base CX0 5 f fd ["ring", "a", "b", "at"] (spDif C) := by
  refine F.ok scDif (fun vs H Q E h => ?_) (fun cdv A outer s H vs Q E hr h => ?_)
  · obtain ⟨z, u, v, a, b, k, rfl, _⟩ := h
    rfl
  · obtain ⟨z, u, v, a, b, k, rfl, ra, ta, tb, k2, fi, go⟩ := h
    refine ⟨_, (pss_one (ps_ret (pe_meth (pv 0) R.cl R.sub.m R.sub.ok (hr.mono (by decide)) R.sub.b .nil pass0 (pa_cons (pe_meth (pv 0) R.cl R.mul.m R.mul.ok (hr.mono (by decide)) R.mul.b .nil pass0 (pa_cons (pe_ix ix_tup (pv 2) (pv 3) (fun _ _ => rfl)) (pa_cons (pe_ix ix_tup (pv 1) pe_int (fun _ _ => rfl)) pa_nil))) (pa_cons (pe_meth (pv 0) R.cl R.mul.m R.mul.ok (hr.mono (by decide)) R.mul.b .nil pass0 (pa_cons (pe_ix ix_tup (pv 1) (pv 3) (fun _ _ => rfl)) (pa_cons (pe_ix ix_tup (pv 2) pe_int (fun _ _ => rfl)) pa_nil))) pa_nil))))), ?_⟩
    exact ret_t (ev_op (op := .sub) rfl ra rfl (ev_op (op := .mul) rfl ra rfl (ev_ix (by omega) (evp_var rfl tb) (evi_v rfl)) (ev_ix (k := 2) (by decide) (evp_var rfl ta) evi_c) fi.1) (ev_op (op := .mul) rfl ra rfl (ev_ix (by omega) (evp_var rfl ta) (evi_v rfl)) (ev_ix (k := 2) (by decide) (evp_var rfl tb) evi_c) fi.2.1) fi) go
theorem ok_placed {f : Addr} {fd : FuncData} (F : Fun K "placed" "placed" sPlaced f fd) (R : RingT P w K mg base C f0 f1 f2 f3 f4 d0 d1 d2 d3 d4) : FnOk P w K mg base CX0 5 f fd ["ring", "x", "y"] (spPlaced C) := by
  refine F.ok scPlaced (fun vs H Q E h => ?_) (fun cdv A outer s H vs Q E hr h => ?_)
  · obtain ⟨z, u, v, a, b, rfl, _⟩ := h
    rfl
  · obtain ⟨z, u, v, a, b, rfl, ra, ta, tb, go⟩ := h
    refine ⟨_, (pss_one (ps_ret (pe_tup (pa_cons (pv 1) (pa_cons (pv 2) (pa_cons (pe_meth (pv 0) R.cl R.num.m R.num.ok (hr.mono (by decide)) R.num.b .nil pass0 (pa_cons pe_int pa_nil)) pa_nil)))))), ?_⟩
    exact ret_p (p := placedX a b) (evp_tup (ev_var rfl ta) (ev_var rfl tb) (ev_num rfl ra rfl evi_c)) go
theorem ok_slid {f : Addr} {fd : FuncData} (F : Fun K "slid" "slid" sSlid f fd) (R : RingT P w K mg base C f0 f1 f2 f3 f4 d0 d1 d2 d3 d4) (U : CallT P w K mg base CX0 5 "difference" ["ring", "a", "b", "at"] (spDif C) fD dD) (rng : mg "range" = none) : FnOk P w K mg base CX0 6 f fd ["ring", "a", "b", "t"] (spSlid C) := by
  refine F.ok scSlid (fun vs H Q E h => ?_) (fun cdv A outer s H vs Q E hr h => ?_)
  · obtain ⟨z, u, v, t, a, b, e, rfl, _⟩ := h
    rfl
  · obtain ⟨z, u, v, t, a, b, e, rfl, ra, ta, tb, te, fi, go⟩ := h
    refine ⟨_, (pss_cons (ps_setLc (i := 4) (own := [("at", 5)]) (g := (gName 5)) (tt := tYes) (te := (tMeth C "plus" (spR2 .add) [] E0 (tVar 0) (tCons (tMeth C "times" (spR2 .mul) [] E0 (tVar 0) (tCons (tOp (rIxT K) (tVar 1) (tVar 5)) (tCons (tOp (rIxT K) (tVar 2) (tC (.int 2))) tNil))) (tCons (tMeth C "times" (spR2 .mul) [] E0 (tVar 0) (tCons (tVar 3) (tCons (tCall (spDif C) [] E0 (tCons (tVar 0) (tCons (tVar 1) (tCons (tVar 2) (tCons (tVar 5) tNil))))) tNil))) tNil)))) rfl scSlid.nd rfl rfl (sw_true rfl rfl rfl (by decide +kernel)) (pi_range1 (by rfl) rng (pa_cons pe_int pa_nil)) (blkOk_by (own := [("at", 5)]) (N := ["ring", "a", "b", "t", "along", "at"]) (sc := defScope sSlid) (by decide +kernel)) (fun _ _ _ _ _ => (pg_name (i := 5) scSlid.nd rfl (Or.inl rfl))) (fun _ _ _ _ _ => pts_nil) (fun _ _ _ _ _ => (pe_meth (pv 0) R.cl R.add.m R.add.ok (hr.mono (by decide)) R.add.b .nil pass0 (pa_cons (pe_meth (pv 0) R.cl R.mul.m R.mul.ok (hr.mono (by decide)) R.mul.b .nil pass0 (pa_cons (pe_ix ix_tup (pv 1) (pv 5) (fun _ _ => rfl)) (pa_cons (pe_ix ix_tup (pv 2) pe_int (fun _ _ => rfl)) pa_nil))) (pa_cons (pe_meth (pv 0) R.cl R.mul.m R.mul.ok (hr.mono (by decide)) R.mul.b .nil pass0 (pa_cons (pv 3) (pa_cons (pe_call U.ok (hr.mono (by decide)) rfl U.g U.k U.b .nil pass0 (pa_cons (pv 0) (pa_cons (pv 1) (pa_cons (pv 2) (pa_cons (pv 5) pa_nil))))) pa_nil))) pa_nil)))))
      (pss_one (ps_ret (pe_tup (pa_cons (pe_ix ix_list (pv 4) pe_int (fun _ _ => rfl)) (pa_cons (pe_ix ix_list (pv 4) pe_int (fun _ _ => rfl)) (pa_cons (pe_meth (pv 0) R.cl R.mul.m R.mul.ok (hr.mono (by decide)) R.mul.b .nil pass0 (pa_cons (pe_ix ix_tup (pv 1) pe_int (fun _ _ => rfl)) (pa_cons (pe_ix ix_tup (pv 2) pe_int (fun _ _ => rfl)) pa_nil))) pa_nil))))))), ?_⟩
    have fx := fi.x
    have fy := fi.y
    refine st_two (f := fun k => .add (.mul (a.at k) b.w) (.mul e (difX a b k))) (fun _ => rfl) (fun k k2 => ?_) (fun l G u0 u1 s1 hl t0 t1 => ?_)
    · have ff : Fine (.add (.mul (a.at k) b.w) (.mul e (difX a b k))) := match k, k2 with | 0, _ => fx | 1, _ => fy
      exact ev_op (op := .add) rfl ra rfl (ev_op (op := .mul) rfl ra rfl (ev_ix (by omega) (evp_var rfl ta) (evi_v rfl)) (ev_ix (k := 2) (by decide) (evp_var rfl tb) evi_c) ff.1) (ev_op (op := .mul) rfl ra rfl (ev_var rfl te) (ev_dif rfl ra (evp_var rfl ta) (evp_var rfl tb) (evi_v rfl) k2 ff.2.1.2.1) ff.2.1) ff
    · exact ret_p (p := slidX a b e) (evp_tup (ev_lix (k := 0) rfl hl rfl t0) (ev_lix (k := 1) rfl hl rfl t1) (ev_op (op := .mul) rfl (ra.up s1) rfl (ev_ix (k := 2) (by decide) (evp_var rfl (ta.up s1)) evi_c) (ev_ix (k := 2) (by decide) (evp_var rfl (tb.up s1)) evi_c) fi.w)) fun x F s2 tx => go x F (s1.trans s2) tx
theorem ok_parted {f : Addr} {fd : FuncData} (F : Fun K "parted" "parted" sParted f fd) (R : RingT P w K mg base C f0 f1 f2 f3 f4 d0 d1 d2 d3 d4) (U : CallT P w K mg base CX0 5 "difference" ["ring", "a", "b", "at"] (spDif C) fD dD) (rng : mg "range" = none) : FnOk P w K mg base CX0 6 f fd ["ring", "a", "b", "n", "d"] (spParted C) := by
  refine F.ok scParted (fun vs H Q E h => ?_) (fun cdv A outer s H vs Q E hr h => ?_)
  · obtain ⟨z, u, v, a, b, n, d, rfl, _⟩ := h
    rfl
  · obtain ⟨z, u, v, a, b, n, d, rfl, ra, ta, tb, fi, go⟩ := h
    refine ⟨_, (pss_cons (ps_setLc (i := 5) (own := [("at", 6)]) (g := (gName 6)) (tt := tYes) (te := (tMeth C "plus" (spR2 .add) [] E0 (tVar 0) (tCons (tMeth C "scaled" spRS [] E0 (tVar 0) (tCons (tMeth C "times" (spR2 .mul) [] E0 (tVar 0) (tCons (tOp (rIxT K) (tVar 1) (tVar 6)) (tCons (tOp (rIxT K) (tVar 2) (tC (.int 2))) tNil))) (tCons (tVar 4) tNil))) (tCons (tMeth C "scaled" spRS [] E0 (tVar 0) (tCons (tCall (spDif C) [] E0 (tCons (tVar 0) (tCons (tVar 1) (tCons (tVar 2) (tCons (tVar 6) tNil))))) (tCons (tVar 3) tNil))) tNil)))) rfl scParted.nd rfl rfl (sw_true rfl rfl rfl (by decide +kernel)) (pi_range1 (by rfl) rng (pa_cons pe_int pa_nil)) (blkOk_by (own := [("at", 6)]) (N := ["ring", "a", "b", "n", "d", "along", "at"]) (sc := defScope sParted) (by decide +kernel)) (fun _ _ _ _ _ => (pg_name (i := 6) scParted.nd rfl (Or.inl rfl))) (fun _ _ _ _ _ => pts_nil) (fun _ _ _ _ _ => (pe_meth (pv 0) R.cl R.add.m R.add.ok (hr.mono (by decide)) R.add.b .nil pass0 (pa_cons (pe_meth (pv 0) R.cl R.scl.m R.scl.ok (hr.mono (by decide)) R.scl.b .nil pass0 (pa_cons (pe_meth (pv 0) R.cl R.mul.m R.mul.ok (hr.mono (by decide)) R.mul.b .nil pass0 (pa_cons (pe_ix ix_tup (pv 1) (pv 6) (fun _ _ => rfl)) (pa_cons (pe_ix ix_tup (pv 2) pe_int (fun _ _ => rfl)) pa_nil))) (pa_cons (pv 4) pa_nil))) (pa_cons (pe_meth (pv 0) R.cl R.scl.m R.scl.ok (hr.mono (by decide)) R.scl.b .nil pass0 (pa_cons (pe_call U.ok (hr.mono (by decide)) rfl U.g U.k U.b .nil pass0 (pa_cons (pv 0) (pa_cons (pv 1) (pa_cons (pv 2) (pa_cons (pv 6) pa_nil))))) (pa_cons (pv 3) pa_nil))) pa_nil)))))
      (pss_one (ps_ret (pe_tup (pa_cons (pe_ix ix_list (pv 5) pe_int (fun _ _ => rfl)) (pa_cons (pe_ix ix_list (pv 5) pe_int (fun _ _ => rfl)) (pa_cons (pe_meth (pv 0) R.cl R.scl.m R.scl.ok (hr.mono (by decide)) R.scl.b .nil pass0 (pa_cons (pe_meth (pv 0) R.cl R.mul.m R.mul.ok (hr.mono (by decide)) R.mul.b .nil pass0 (pa_cons (pe_ix ix_tup (pv 1) pe_int (fun _ _ => rfl)) (pa_cons (pe_ix ix_tup (pv 2) pe_int (fun _ _ => rfl)) pa_nil))) (pa_cons (pv 4) pa_nil))) pa_nil))))))), ?_⟩
    have fx := fi.x
    have fy := fi.y
    refine st_two (f := fun k => .add (.scl (.mul (a.at k) b.w) d) (.scl (difX a b k) n)) (fun _ => rfl) (fun k k2 => ?_) (fun l G u0 u1 s1 hl t0 t1 => ?_)
    · have ff : Fine (.add (.scl (.mul (a.at k) b.w) d) (.scl (difX a b k) n)) := match k, k2 with | 0, _ => fx | 1, _ => fy
      exact ev_op (op := .add) rfl ra rfl (ev_scl rfl ra rfl (ev_op (op := .mul) rfl ra rfl (ev_ix (by omega) (evp_var rfl ta) (evi_v rfl)) (ev_ix (k := 2) (by decide) (evp_var rfl tb) evi_c) ff.1.1) (evi_v rfl) ff.1) (ev_scl rfl ra rfl (ev_dif rfl ra (evp_var rfl ta) (evp_var rfl tb) (evi_v rfl) k2 ff.2.1.1) (evi_v rfl) ff.2.1) ff
    · exact ret_p (p := partX a b n d) (evp_tup (ev_lix (k := 0) rfl hl rfl t0) (ev_lix (k := 1) rfl hl rfl t1) (ev_scl rfl (ra.up s1) rfl (ev_op (op := .mul) rfl (ra.up s1) rfl (ev_ix (k := 2) (by decide) (evp_var rfl (ta.up s1)) evi_c) (ev_ix (k := 2) (by decide) (evp_var rfl (tb.up s1)) evi_c) fi.w.1) (evi_v rfl) fi.w)) fun x F s2 tx => go x F (s1.trans s2) tx
theorem ok_moved {f : Addr} {fd : FuncData} (F : Fun K "_moved" "_moved" sMoved f fd) (R : RingT P w K mg base C f0 f1 f2 f3 f4 d0 d1 d2 d3 d4) : FnOk P w K mg base CX0 5 f fd ["ring", "q", "across", "up", "weight"] (spMoved C) := by
  refine F.ok scMoved (fun vs H Q E h => ?_) (fun cdv A outer s H vs Q E hr h => ?_)
  · obtain ⟨z, u, e1, e2, e3, q, a, b, c, rfl, _⟩ := h
    rfl
  · obtain ⟨z, u, e1, e2, e3, q, a, b, c, rfl, ra, tq, ta, tb, tc, fi, go⟩ := h
    refine ⟨_, (pss_one (ps_ret (pe_tup (pa_cons (pe_meth (pv 0) R.cl R.add.m R.add.ok (hr.mono (by decide)) R.add.b .nil pass0 (pa_cons (pe_meth (pv 0) R.cl R.mul.m R.mul.ok (hr.mono (by decide)) R.mul.b .nil pass0 (pa_cons (pe_ix ix_tup (pv 1) pe_int (fun _ _ => rfl)) (pa_cons (pv 4) pa_nil))) (pa_cons (pe_meth (pv 0) R.cl R.mul.m R.mul.ok (hr.mono (by decide)) R.mul.b .nil pass0 (pa_cons (pe_ix ix_tup (pv 1) pe_int (fun _ _ => rfl)) (pa_cons (pv 2) pa_nil))) pa_nil))) (pa_cons (pe_meth (pv 0) R.cl R.add.m R.add.ok (hr.mono (by decide)) R.add.b .nil pass0 (pa_cons (pe_meth (pv 0) R.cl R.mul.m R.mul.ok (hr.mono (by decide)) R.mul.b .nil pass0 (pa_cons (pe_ix ix_tup (pv 1) pe_int (fun _ _ => rfl)) (pa_cons (pv 4) pa_nil))) (pa_cons (pe_meth (pv 0) R.cl R.mul.m R.mul.ok (hr.mono (by decide)) R.mul.b .nil pass0 (pa_cons (pe_ix ix_tup (pv 1) pe_int (fun _ _ => rfl)) (pa_cons (pv 3) pa_nil))) pa_nil))) (pa_cons (pe_meth (pv 0) R.cl R.mul.m R.mul.ok (hr.mono (by decide)) R.mul.b .nil pass0 (pa_cons (pe_ix ix_tup (pv 1) pe_int (fun _ _ => rfl)) (pa_cons (pv 4) pa_nil))) pa_nil)))))), ?_⟩
    have fx := fi.x
    have fy := fi.y
    have q0 := ev_ix (K := K) (k := 0) (by decide) (evp_var (σ := start ["ring", "q", "across", "up", "weight"] [z, u, e1, e2, e3]) (i := 1) rfl tq) (evi_c (k := ((0 : Nat) : Int)))
    have q1 := ev_ix (K := K) (k := 1) (by decide) (evp_var (σ := start ["ring", "q", "across", "up", "weight"] [z, u, e1, e2, e3]) (i := 1) rfl tq) (evi_c (k := ((1 : Nat) : Int)))
    have q2 := ev_ix (K := K) (k := 2) (by decide) (evp_var (σ := start ["ring", "q", "across", "up", "weight"] [z, u, e1, e2, e3]) (i := 1) rfl tq) (evi_c (k := ((2 : Nat) : Int)))
    exact ret_p (p := movedX q a b c) (evp_tup (ev_op (op := .add) rfl ra rfl (ev_op (op := .mul) rfl ra rfl q0 (ev_var rfl tc) fx.1) (ev_op (op := .mul) rfl ra rfl q2 (ev_var rfl ta) fx.2.1) fx) (ev_op (op := .add) rfl ra rfl (ev_op (op := .mul) rfl ra rfl q1 (ev_var rfl tc) fy.1) (ev_op (op := .mul) rfl ra rfl q2 (ev_var rfl tb) fy.2.1) fy) (ev_op (op := .mul) rfl ra rfl q2 (ev_var rfl tc) fi.w)) go
theorem ok_shifted {f : Addr} {fd : FuncData} (F : Fun K "shifted" "shifted" sShifted f fd) (R : RingT P w K mg base C f0 f1 f2 f3 f4 d0 d1 d2 d3 d4) (U : CallT P w K mg base CX0 5 "difference" ["ring", "a", "b", "at"] (spDif C) fD dD) (M : CallT P w K mg base CX0 5 "_moved" ["ring", "q", "across", "up", "weight"] (spMoved C) fM dM) : FnOk P w K mg base CX0 6 f fd ["ring", "q", "a", "b"] (spM3 C shiftX) := by
  refine F.ok scShifted (fun vs H Q E h => ?_) (fun cdv A outer s H vs Q E hr h => ?_)
  · obtain ⟨z, u, v, t, q, a, b, rfl, _⟩ := h
    rfl
  · obtain ⟨z, u, v, t, q, a, b, rfl, ra, tq, ta, tb, fi, go⟩ := h
    refine ⟨_, (pss_cons (ps_set (i := 4) scShifted.nd rfl (Or.inl rfl) (pe_call U.ok (hr.mono (by decide)) rfl U.g U.k U.b .nil pass0 (pa_cons (pv 0) (pa_cons (pv 2) (pa_cons (pv 3) (pa_cons pe_int pa_nil))))))
      (pss_cons (ps_set (i := 5) scShifted.nd rfl (Or.inl rfl) (pe_call U.ok (hr.mono (by decide)) rfl U.g U.k U.b .nil pass0 (pa_cons (pv 0) (pa_cons (pv 2) (pa_cons (pv 3) (pa_cons pe_int pa_nil))))))
      (pss_one (ps_ret (pe_call M.ok (hr.mono (by decide)) rfl M.g M.k M.b .nil pass0 (pa_cons (pv 0) (pa_cons (pv 1) (pa_cons (pv 4) (pa_cons (pv 5) (pa_cons (pe_meth (pv 0) R.cl R.mul.m R.mul.ok (hr.mono (by decide)) R.mul.b .nil pass0 (pa_cons (pe_ix ix_tup (pv 2) pe_int (fun _ _ => rfl)) (pa_cons (pe_ix ix_tup (pv 3) pe_int (fun _ _ => rfl)) pa_nil))) pa_nil)))))))))), ?_⟩
    have fx : Fine (difX a b 0) := fi.x.2.1.2.1
    have fy : Fine (difX a b 1) := fi.y.2.1.2.1
    refine st_asg (ev_dif (k := 0) rfl ra (evp_var rfl ta) (evp_var rfl tb) evi_c (by decide) fx) (fun ux G1 s1 t1 => ?_)
    refine st_asg (ev_dif (k := 1) rfl (ra.up s1) (evp_var rfl (ta.up s1)) (evp_var rfl (tb.up s1)) evi_c (by decide) fy) (fun uy G2 s2 t2 => ?_)
    have s12 := s1.trans s2
    exact ret_p (p := shiftX q a b) (evp_moved rfl (ra.up s12) (evp_var rfl (tq.up s12)) (ev_var rfl (t1.up s2)) (ev_var rfl t2) (ev_op (op := .mul) rfl (ra.up s12) rfl (ev_ix (k := 2) (by decide) (evp_var rfl (ta.up s12)) evi_c) (ev_ix (k := 2) (by decide) (evp_var rfl (tb.up s12)) evi_c) fi.w.2.1) fi) fun x F s3 tx => go x F (s12.trans s3) tx
theorem ok_turned {f : Addr} {fd : FuncData} (F : Fun K "turned" "turned" sTurned f fd) (R : RingT P w K mg base C f0 f1 f2 f3 f4 d0 d1 d2 d3 d4) (U : CallT P w K mg base CX0 5 "difference" ["ring", "a", "b", "at"] (spDif C) fD dD) (M : CallT P w K mg base CX0 5 "_moved" ["ring", "q", "across", "up", "weight"] (spMoved C) fM dM) : FnOk P w K mg base CX0 6 f fd ["ring", "q", "a", "b"] (spM3 C turnX) := by
  refine F.ok scTurned (fun vs H Q E h => ?_) (fun cdv A outer s H vs Q E hr h => ?_)
  · obtain ⟨z, u, v, t, q, a, b, rfl, _⟩ := h
    rfl
  · obtain ⟨z, u, v, t, q, a, b, rfl, ra, tq, ta, tb, fi, go⟩ := h
    refine ⟨_, (pss_cons (ps_set (i := 4) scTurned.nd rfl (Or.inl rfl) (pe_call U.ok (hr.mono (by decide)) rfl U.g U.k U.b .nil pass0 (pa_cons (pv 0) (pa_cons (pv 2) (pa_cons (pv 3) (pa_cons pe_int pa_nil))))))
      (pss_cons (ps_set (i := 5) scTurned.nd rfl (Or.inl rfl) (pe_call U.ok (hr.mono (by decide)) rfl U.g U.k U.b .nil pass0 (pa_cons (pv 0) (pa_cons (pv 2) (pa_cons (pv 3) (pa_cons pe_int pa_nil))))))
      (pss_one (ps_ret (pe_call M.ok (hr.mono (by decide)) rfl M.g M.k M.b .nil pass0 (pa_cons (pv 0) (pa_cons (pv 1) (pa_cons (pe_meth (pv 0) R.cl R.scl.m R.scl.ok (hr.mono (by decide)) R.scl.b .nil pass0 (pa_cons (pv 5) (pa_cons (pe_un un_neg pe_int) pa_nil))) (pa_cons (pv 4) (pa_cons (pe_meth (pv 0) R.cl R.mul.m R.mul.ok (hr.mono (by decide)) R.mul.b .nil pass0 (pa_cons (pe_ix ix_tup (pv 2) pe_int (fun _ _ => rfl)) (pa_cons (pe_ix ix_tup (pv 3) pe_int (fun _ _ => rfl)) pa_nil))) pa_nil)))))))))), ?_⟩
    have fs : Fine (.scl (difX a b 1) (-1)) := fi.x.2.1.2.1
    have fx : Fine (difX a b 0) := fi.y.2.1.2.1
    refine st_asg (ev_dif (k := 0) rfl ra (evp_var rfl ta) (evp_var rfl tb) evi_c (by decide) fx) (fun ux G1 s1 t1 => ?_)
    refine st_asg (ev_dif (k := 1) rfl (ra.up s1) (evp_var rfl (ta.up s1)) (evp_var rfl (tb.up s1)) evi_c (by decide) fs.1) (fun uy G2 s2 t2 => ?_)
    have s12 := s1.trans s2
    exact ret_p (p := turnX q a b) (evp_moved rfl (ra.up s12) (evp_var rfl (tq.up s12)) (ev_scl rfl (ra.up s12) rfl (ev_var rfl t2) (evi_neg evi_c) fs) (ev_var rfl (t1.up s2)) (ev_op (op := .mul) rfl (ra.up s12) rfl (ev_ix (k := 2) (by decide) (evp_var rfl (ta.up s12)) evi_c) (ev_ix (k := 2) (by decide) (evp_var rfl (tb.up s12)) evi_c) fi.w.2.1) fi) fun x F s3 tx => go x F (s12.trans s3) tx
theorem ok_beyond {f : Addr} {fd : FuncData} (F : Fun K "beyond" "beyond" sBeyond f fd) (R : RingT P w K mg base C f0 f1 f2 f3 f4 d0 d1 d2 d3 d4) (rng : mg "range" = none) : FnOk P w K mg base CX0 5 f fd ["ring", "q", "c"] (spM2 C overX) := by
  refine F.ok scBeyond (fun vs H Q E h => ?_) (fun cdv A outer s H vs Q E hr h => ?_)
  · obtain ⟨z, u, v, a, b, rfl, _⟩ := h
    rfl
  · obtain ⟨z, u, v, q, c, rfl, ra, tq, tc, fi, go⟩ := h
    refine ⟨_, (pss_cons (ps_setLc (i := 3) (own := [("at", 4)]) (g := (gName 4)) (tt := tYes) (te := (tMeth C "minus" (spR2 .sub) [] E0 (tVar 0) (tCons (tMeth C "scaled" spRS [] E0 (tVar 0) (tCons (tMeth C "times" (spR2 .mul) [] E0 (tVar 0) (tCons (tOp (rIxT K) (tVar 2) (tVar 4)) (tCons (tOp (rIxT K) (tVar 1) (tC (.int 2))) tNil))) (tCons (tC (.int 2)) tNil))) (tCons (tMeth C "times" (spR2 .mul) [] E0 (tVar 0) (tCons (tOp (rIxT K) (tVar 1) (tVar 4)) (tCons (tOp (rIxT K) (tVar 2) (tC (.int 2))) tNil))) tNil)))) rfl scBeyond.nd rfl rfl (sw_true rfl rfl rfl (by decide +kernel)) (pi_range1 (by rfl) rng (pa_cons pe_int pa_nil)) (blkOk_by (own := [("at", 4)]) (N := ["ring", "q", "c", "across", "at"]) (sc := defScope sBeyond) (by decide +kernel)) (fun _ _ _ _ _ => (pg_name (i := 4) scBeyond.nd rfl (Or.inl rfl))) (fun _ _ _ _ _ => pts_nil) (fun _ _ _ _ _ => (pe_meth (pv 0) R.cl R.sub.m R.sub.ok (hr.mono (by decide)) R.sub.b .nil pass0 (pa_cons (pe_meth (pv 0) R.cl R.scl.m R.scl.ok (hr.mono (by decide)) R.scl.b .nil pass0 (pa_cons (pe_meth (pv 0) R.cl R.mul.m R.mul.ok (hr.mono (by decide)) R.mul.b .nil pass0 (pa_cons (pe_ix ix_tup (pv 2) (pv 4) (fun _ _ => rfl)) (pa_cons (pe_ix ix_tup (pv 1) pe_int (fun _ _ => rfl)) pa_nil))) (pa_cons pe_int pa_nil))) (pa_cons (pe_meth (pv 0) R.cl R.mul.m R.mul.ok (hr.mono (by decide)) R.mul.b .nil pass0 (pa_cons (pe_ix ix_tup (pv 1) (pv 4) (fun _ _ => rfl)) (pa_cons (pe_ix ix_tup (pv 2) pe_int (fun _ _ => rfl)) pa_nil))) pa_nil)))))
      (pss_one (ps_ret (pe_tup (pa_cons (pe_ix ix_list (pv 3) pe_int (fun _ _ => rfl)) (pa_cons (pe_ix ix_list (pv 3) pe_int (fun _ _ => rfl)) (pa_cons (pe_meth (pv 0) R.cl R.mul.m R.mul.ok (hr.mono (by decide)) R.mul.b .nil pass0 (pa_cons (pe_ix ix_tup (pv 2) pe_int (fun _ _ => rfl)) (pa_cons (pe_ix ix_tup (pv 1) pe_int (fun _ _ => rfl)) pa_nil))) pa_nil))))))), ?_⟩
    have fx := fi.x
    have fy := fi.y
    refine st_two (f := fun k => .sub (.scl (.mul (c.at k) q.w) 2) (.mul (q.at k) c.w)) (fun _ => rfl) (fun k k2 => ?_) (fun l G u0 u1 s1 hl t0 t1 => ?_)
    · have ff : Fine (.sub (.scl (.mul (c.at k) q.w) 2) (.mul (q.at k) c.w)) := match k, k2 with | 0, _ => fx | 1, _ => fy
      exact ev_op (op := .sub) rfl ra rfl (ev_scl rfl ra rfl (ev_op (op := .mul) rfl ra rfl (ev_ix (by omega) (evp_var rfl tc) (evi_v rfl)) (ev_ix (k := 2) (by decide) (evp_var rfl tq) evi_c) ff.1.1) evi_c ff.1) (ev_op (op := .mul) rfl ra rfl (ev_ix (by omega) (evp_var rfl tq) (evi_v rfl)) (ev_ix (k := 2) (by decide) (evp_var rfl tc) evi_c) ff.2.1) ff
    · exact ret_p (p := overX q c) (evp_tup (ev_lix (k := 0) rfl hl rfl t0) (ev_lix (k := 1) rfl hl rfl t1) (ev_op (op := .mul) rfl (ra.up s1) rfl (ev_ix (k := 2) (by decide) (evp_var rfl (tc.up s1)) evi_c) (ev_ix (k := 2) (by decide) (evp_var rfl (tq.up s1)) evi_c) fi.w)) fun x F s2 tx => go x F (s1.trans s2) tx
theorem ok_foot {f : Addr} {fd : FuncData} (F : Fun K "foot" "foot" sFoot f fd) (R : RingT P w K mg base C f0 f1 f2 f3 f4 d0 d1 d2 d3 d4) (U : CallT P w K mg base CX0 5 "difference" ["ring", "a", "b", "at"] (spDif C) fD dD) : FnOk P w K mg base CX0 6 f fd ["ring", "q", "a", "b"] (spM3 C footX) := by
  refine F.ok scFoot (fun vs H Q E h => ?_) (fun cdv A outer s H vs Q E hr h => ?_)
  · obtain ⟨z, u, v, t, q, a, b, rfl, _⟩ := h
    rfl
  · obtain ⟨z, u, v, t, q, a, b, rfl, ra, tq, ta, tb, fi, go⟩ := h
    refine ⟨_, (pss_cons (ps_set (i := 4) scFoot.nd rfl (Or.inl rfl) (pe_call U.ok (hr.mono (by decide)) rfl U.g U.k U.b .nil pass0 (pa_cons (pv 0) (pa_cons (pv 2) (pa_cons (pv 3) (pa_cons pe_int pa_nil))))))
      (pss_cons (ps_set (i := 5) scFoot.nd rfl (Or.inl rfl) (pe_call U.ok (hr.mono (by decide)) rfl U.g U.k U.b .nil pass0 (pa_cons (pv 0) (pa_cons (pv 2) (pa_cons (pv 3) (pa_cons pe_int pa_nil))))))
      (pss_cons (ps_set (i := 6) scFoot.nd rfl (Or.inl rfl) (pe_meth (pv 0) R.cl R.add.m R.add.ok (hr.mono (by decide)) R.add.b .nil pass0 (pa_cons (pe_meth (pv 0) R.cl R.mul.m R.mul.ok (hr.mono (by decide)) R.mul.b .nil pass0 (pa_cons (pv 4) (pa_cons (pv 4) pa_nil))) (pa_cons (pe_meth (pv 0) R.cl R.mul.m R.mul.ok (hr.mono (by decide)) R.mul.b .nil pass0 (pa_cons (pv 5) (pa_cons (pv 5) pa_nil))) pa_nil))))
      (pss_cons (ps_set (i := 7) scFoot.nd rfl (Or.inl rfl) (pe_meth (pv 0) R.cl R.add.m R.add.ok (hr.mono (by decide)) R.add.b .nil pass0 (pa_cons (pe_meth (pv 0) R.cl R.mul.m R.mul.ok (hr.mono (by decide)) R.mul.b .nil pass0 (pa_cons (pe_call U.ok (hr.mono (by decide)) rfl U.g U.k U.b .nil pass0 (pa_cons (pv 0) (pa_cons (pv 2) (pa_cons (pv 1) (pa_cons pe_int pa_nil))))) (pa_cons (pv 4) pa_nil))) (pa_cons (pe_meth (pv 0) R.cl R.mul.m R.mul.ok (hr.mono (by decide)) R.mul.b .nil pass0 (pa_cons (pe_call U.ok (hr.mono (by decide)) rfl U.g U.k U.b .nil pass0 (pa_cons (pv 0) (pa_cons (pv 2) (pa_cons (pv 1) (pa_cons pe_int pa_nil))))) (pa_cons (pv 5) pa_nil))) pa_nil))))
      (pss_cons (ps_set (i := 8) scFoot.nd rfl (Or.inl rfl) (pe_meth (pv 0) R.cl R.mul.m R.mul.ok (hr.mono (by decide)) R.mul.b .nil pass0 (pa_cons (pe_ix ix_tup (pv 1) pe_int (fun _ _ => rfl)) (pa_cons (pv 6) pa_nil))))
      (pss_one (ps_ret (pe_tup (pa_cons (pe_meth (pv 0) R.cl R.add.m R.add.ok (hr.mono (by decide)) R.add.b .nil pass0 (pa_cons (pe_meth (pv 0) R.cl R.mul.m R.mul.ok (hr.mono (by decide)) R.mul.b .nil pass0 (pa_cons (pe_ix ix_tup (pv 2) pe_int (fun _ _ => rfl)) (pa_cons (pv 8) pa_nil))) (pa_cons (pe_meth (pv 0) R.cl R.mul.m R.mul.ok (hr.mono (by decide)) R.mul.b .nil pass0 (pa_cons (pv 7) (pa_cons (pv 4) pa_nil))) pa_nil))) (pa_cons (pe_meth (pv 0) R.cl R.add.m R.add.ok (hr.mono (by decide)) R.add.b .nil pass0 (pa_cons (pe_meth (pv 0) R.cl R.mul.m R.mul.ok (hr.mono (by decide)) R.mul.b .nil pass0 (pa_cons (pe_ix ix_tup (pv 2) pe_int (fun _ _ => rfl)) (pa_cons (pv 8) pa_nil))) (pa_cons (pe_meth (pv 0) R.cl R.mul.m R.mul.ok (hr.mono (by decide)) R.mul.b .nil pass0 (pa_cons (pv 7) (pa_cons (pv 5) pa_nil))) pa_nil))) (pa_cons (pe_meth (pv 0) R.cl R.mul.m R.mul.ok (hr.mono (by decide)) R.mul.b .nil pass0 (pa_cons (pe_ix ix_tup (pv 2) pe_int (fun _ _ => rfl)) (pa_cons (pv 8) pa_nil))) pa_nil))))))))))), ?_⟩
    have fw : Fine (.mul q.w (squareX a b)) := fi.w.2.1
    have fs : Fine (squareX a b) := fw.2.1
    have fl : Fine (alongX q a b) := fi.x.2.1.1
    have fx : Fine (difX a b 0) := fi.x.2.1.2.1
    have fy : Fine (difX a b 1) := fi.y.2.1.2.1
    refine st_asg (ev_dif (k := 0) rfl ra (evp_var rfl ta) (evp_var rfl tb) evi_c (by decide) fx) (fun ux G1 s1 t1 => ?_)
    refine st_asg (ev_dif (k := 1) rfl (ra.up s1) (evp_var rfl (ta.up s1)) (evp_var rfl (tb.up s1)) evi_c (by decide) fy) (fun uy G2 s2 t2 => ?_)
    have s12 := s1.trans s2
    have t1 := t1.up s2
    have ra2 := ra.up s12
    refine st_asg (e := squareX a b) (ev_op (op := .add) rfl ra2 rfl (ev_op (op := .mul) rfl ra2 rfl (ev_var rfl t1) (ev_var rfl t1) fs.1) (ev_op (op := .mul) rfl ra2 rfl (ev_var rfl t2) (ev_var rfl t2) fs.2.1) fs) (fun sq G3 s3 t3 => ?_)
    have s13 := s12.trans s3
    have ra3 := ra.up s13
    refine st_asg (e := alongX q a b) (ev_op (op := .add) rfl ra3 rfl (ev_op (op := .mul) rfl ra3 rfl (ev_dif (k := 0) rfl ra3 (evp_var rfl (ta.up s13)) (evp_var rfl (tq.up s13)) evi_c (by decide) fl.1.1) (ev_var rfl (t1.up s3)) fl.1) (ev_op (op := .mul) rfl ra3 rfl (ev_dif (k := 1) rfl ra3 (evp_var rfl (ta.up s13)) (evp_var rfl (tq.up s13)) evi_c (by decide) fl.2.1.1) (ev_var rfl (t2.up s3)) fl.2.1) fl) (fun al G4 s4 t4 => ?_)
    have s14 := s13.trans s4
    have ra4 := ra.up s14
    refine st_asg (e := .mul q.w (squareX a b)) (ev_op (op := .mul) rfl ra4 rfl (ev_ix (k := 2) (by decide) (evp_var rfl (tq.up s14)) evi_c) (ev_var rfl (t3.up s4)) fw) (fun wt G5 s5 t5 => ?_)
    have s15 := s14.trans s5
    have ra5 := ra.up s15
    have ta5 := ta.up s15
    have t45 := t4.up s5
    have s35 := s3.trans (s4.trans s5)
    exact ret_p (p := footX q a b) (evp_tup (ev_op (op := .add) rfl ra5 rfl (ev_op (op := .mul) rfl ra5 rfl (ev_ix (k := 0) (by decide) (evp_var rfl ta5) evi_c) (ev_var rfl t5) fi.x.1) (ev_op (op := .mul) rfl ra5 rfl (ev_var rfl t45) (ev_var rfl (t1.up s35)) fi.x.2.1) fi.x) (ev_op (op := .add) rfl ra5 rfl (ev_op (op := .mul) rfl ra5 rfl (ev_ix (k := 1) (by decide) (evp_var rfl ta5) evi_c) (ev_var rfl t5) fi.y.1) (ev_op (op := .mul) rfl ra5 rfl (ev_var rfl t45) (ev_var rfl (t2.up s35)) fi.y.2.1) fi.y) (ev_op (op := .mul) rfl ra5 rfl (ev_ix (k := 2) (by decide) (evp_var rfl ta5) evi_c) (ev_var rfl t5) fi.w)) fun x F s6 tx => go x F (s15.trans s6) tx
theorem ok_mirrored {f : Addr} {fd : FuncData} (F : Fun K "mirrored" "mirrored" sMirrored f fd) (B : CallT P w K mg base CX0 5 "beyond" ["ring", "q", "c"] (spM2 C overX) fB dB) (T : CallT P w K mg base CX0 6 "foot" ["ring", "q", "a", "b"] (spM3 C footX) fF dF) : FnOk P w K mg base CX0 7 f fd ["ring", "q", "a", "b"] (spM3 C mirrorX) := by
  refine F.ok scMirrored (fun vs H Q E h => ?_) (fun cdv A outer s H vs Q E hr h => ?_)
  · obtain ⟨z, u, v, t, q, a, b, rfl, _⟩ := h
    rfl
  · obtain ⟨z, u, v, t, q, a, b, rfl, ra, tq, ta, tb, fi, go⟩ := h
    refine ⟨_, (pss_one (ps_ret (pe_call B.ok (hr.mono (by decide)) rfl B.g B.k B.b .nil pass0 (pa_cons (pv 0) (pa_cons (pv 1) (pa_cons (pe_call T.ok (hr.mono (by decide)) rfl T.g T.k T.b .nil pass0 (pa_cons (pv 0) (pa_cons (pv 1) (pa_cons (pv 2) (pa_cons (pv 3) pa_nil))))) pa_nil)))))), ?_⟩
    exact ret_p (p := mirrorX q a b) (evp_m2 rfl ra (evp_var rfl tq) (evp_m3 rfl ra (evp_var rfl tq) (evp_var rfl ta) (evp_var rfl tb) (fine_over fi).2) fi) go
theorem ok_second {f : Addr} {fd : FuncData} (F : Fun K "second" "second" sSecond f fd) (B : CallT P w K mg base CX0 5 "beyond" ["ring", "q", "c"] (spM2 C overX) fB dB) (T : CallT P w K mg base CX0 6 "foot" ["ring", "q", "a", "b"] (spM3 C footX) fF dF) : FnOk P w K mg base CX0 7 f fd ["ring", "a", "b", "o"] (spM3 C secondX) := by
  refine F.ok scSecond (fun vs H Q E h => ?_) (fun cdv A outer s H vs Q E hr h => ?_)
  · obtain ⟨z, u, v, t, q, a, b, rfl, _⟩ := h
    rfl
  · obtain ⟨z, u, v, t, a, b, o, rfl, ra, ta, tb, to, fi, go⟩ := h
    refine ⟨_, (pss_one (ps_ret (pe_call B.ok (hr.mono (by decide)) rfl B.g B.k B.b .nil pass0 (pa_cons (pv 0) (pa_cons (pv 1) (pa_cons (pe_call T.ok (hr.mono (by decide)) rfl T.g T.k T.b .nil pass0 (pa_cons (pv 0) (pa_cons (pv 3) (pa_cons (pv 1) (pa_cons (pv 2) pa_nil))))) pa_nil)))))), ?_⟩
    exact ret_p (p := secondX a b o) (evp_m2 rfl ra (evp_var rfl ta) (evp_m3 rfl ra (evp_var rfl to) (evp_var rfl ta) (evp_var rfl tb) (fine_over fi).2) fi) go
theorem ok_crossed {f : Addr} {fd : FuncData} (F : Fun K "crossed" "crossed" sCrossed f fd) (R : RingT P w K mg base C f0 f1 f2 f3 f4 d0 d1 d2 d3 d4) : FnOk P w K mg base CX0 5 f fd ["ring", "one", "other"] (spM2 C crossX) := by
  refine F.ok scCrossed (fun vs H Q E h => ?_) (fun cdv A outer s H vs Q E hr h => ?_)
  · obtain ⟨z, u, v, a, b, rfl, _⟩ := h
    rfl
  · obtain ⟨z, u, v, a, b, rfl, ra, ta, tb, fi, go⟩ := h
    refine ⟨_, (pss_one (ps_ret (pe_tup (pa_cons (pe_meth (pv 0) R.cl R.sub.m R.sub.ok (hr.mono (by decide)) R.sub.b .nil pass0 (pa_cons (pe_meth (pv 0) R.cl R.mul.m R.mul.ok (hr.mono (by decide)) R.mul.b .nil pass0 (pa_cons (pe_ix ix_tup (pv 1) pe_int (fun _ _ => rfl)) (pa_cons (pe_ix ix_tup (pv 2) pe_int (fun _ _ => rfl)) pa_nil))) (pa_cons (pe_meth (pv 0) R.cl R.mul.m R.mul.ok (hr.mono (by decide)) R.mul.b .nil pass0 (pa_cons (pe_ix ix_tup (pv 1) pe_int (fun _ _ => rfl)) (pa_cons (pe_ix ix_tup (pv 2) pe_int (fun _ _ => rfl)) pa_nil))) pa_nil))) (pa_cons (pe_meth (pv 0) R.cl R.sub.m R.sub.ok (hr.mono (by decide)) R.sub.b .nil pass0 (pa_cons (pe_meth (pv 0) R.cl R.mul.m R.mul.ok (hr.mono (by decide)) R.mul.b .nil pass0 (pa_cons (pe_ix ix_tup (pv 1) pe_int (fun _ _ => rfl)) (pa_cons (pe_ix ix_tup (pv 2) pe_int (fun _ _ => rfl)) pa_nil))) (pa_cons (pe_meth (pv 0) R.cl R.mul.m R.mul.ok (hr.mono (by decide)) R.mul.b .nil pass0 (pa_cons (pe_ix ix_tup (pv 1) pe_int (fun _ _ => rfl)) (pa_cons (pe_ix ix_tup (pv 2) pe_int (fun _ _ => rfl)) pa_nil))) pa_nil))) (pa_cons (pe_meth (pv 0) R.cl R.sub.m R.sub.ok (hr.mono (by decide)) R.sub.b .nil pass0 (pa_cons (pe_meth (pv 0) R.cl R.mul.m R.mul.ok (hr.mono (by decide)) R.mul.b .nil pass0 (pa_cons (pe_ix ix_tup (pv 1) pe_int (fun _ _ => rfl)) (pa_cons (pe_ix ix_tup (pv 2) pe_int (fun _ _ => rfl)) pa_nil))) (pa_cons (pe_meth (pv 0) R.cl R.mul.m R.mul.ok (hr.mono (by decide)) R.mul.b .nil pass0 (pa_cons (pe_ix ix_tup (pv 1) pe_int (fun _ _ => rfl)) (pa_cons (pe_ix ix_tup (pv 2) pe_int (fun _ _ => rfl)) pa_nil))) pa_nil))) pa_nil)))))), ?_⟩
    have A : ∀ k : Nat, k < 3 → EvT (start ["ring", "one", "other"] [z, u, v]) H (tOp (rIxT K) (tVar 1) (tC (.int (k : Int)))) (a.at k) := fun k k3 => ev_ix k3 (evp_var rfl ta) evi_c
    have B : ∀ k : Nat, k < 3 → EvT (start ["ring", "one", "other"] [z, u, v]) H (tOp (rIxT K) (tVar 2) (tC (.int (k : Int)))) (b.at k) := fun k k3 => ev_ix k3 (evp_var rfl tb) evi_c
    have A0 := A 0 (by decide)
    have A1 := A 1 (by decide)
    have A2 := A 2 (by decide)
    have B0 := B 0 (by decide)
    have B1 := B 1 (by decide)
    have B2 := B 2 (by decide)
    exact ret_p (p := crossX a b) (evp_tup (ev_op (op := .sub) rfl ra rfl (ev_op (op := .mul) rfl ra rfl A1 B2 fi.x.1) (ev_op (op := .mul) rfl ra rfl A2 B1 fi.x.2.1) fi.x) (ev_op (op := .sub) rfl ra rfl (ev_op (op := .mul) rfl ra rfl A2 B0 fi.y.1) (ev_op (op := .mul) rfl ra rfl A0 B2 fi.y.2.1) fi.y) (ev_op (op := .sub) rfl ra rfl (ev_op (op := .mul) rfl ra rfl A0 B1 fi.w.1) (ev_op (op := .mul) rfl ra rfl A1 B0 fi.w.2.1) fi.w)) go
theorem ok_meet {f : Addr} {fd : FuncData} (F : Fun K "meet" "meet" sMeet f fd) (X : CallT P w K mg base CX0 5 "crossed" ["ring", "one", "other"] (spM2 C crossX) fX dX) : FnOk P w K mg base CX0 6 f fd ["ring", "a", "b", "c", "d"] (spM4 C meetX) := by
  refine F.ok scMeet (fun vs H Q E h => ?_) (fun cdv A outer s H vs Q E hr h => ?_)
  · obtain ⟨z, u, v, t, y, a, b, c, d, rfl, _⟩ := h
    rfl
  · obtain ⟨z, u, v, t, y, a, b, c, d, rfl, ra, ta, tb, tc, td, fi, go⟩ := h
    refine ⟨_, (pss_one (ps_ret (pe_call X.ok (hr.mono (by decide)) rfl X.g X.k X.b .nil pass0 (pa_cons (pv 0) (pa_cons (pe_call X.ok (hr.mono (by decide)) rfl X.g X.k X.b .nil pass0 (pa_cons (pv 0) (pa_cons (pv 1) (pa_cons (pv 2) pa_nil)))) (pa_cons (pe_call X.ok (hr.mono (by decide)) rfl X.g X.k X.b .nil pass0 (pa_cons (pv 0) (pa_cons (pv 3) (pa_cons (pv 4) pa_nil)))) pa_nil)))))), ?_⟩
    exact ret_p (p := meetX a b c d) (evp_m2 rfl ra (evp_m2 rfl ra (evp_var rfl ta) (evp_var rfl tb) (fine_meet fi).1) (evp_m2 rfl ra (evp_var rfl tc) (evp_var rfl td) (fine_meet fi).2) fi) go
theorem ok_centre {f : Addr} {fd : FuncData} (F : Fun K "centre" "centre" sCentre f fd) (Z : CallT P w K mg base CX0 6 "parted" ["ring", "a", "b", "n", "d"] (spParted C) fP dP) (T : CallT P w K mg base CX0 6 "turned" ["ring", "q", "a", "b"] (spM3 C turnX) fT dT) (M : CallT P w K mg base CX0 6 "meet" ["ring", "a", "b", "c", "d"] (spM4 C meetX) fM dM) : FnOk P w K mg base CX0 7 f fd ["ring", "a", "b", "c"] (spM3 C centreX) := by
  refine F.ok scCentre (fun vs H Q E h => ?_) (fun cdv A outer s H vs Q E hr h => ?_)
  · obtain ⟨z, u, v, t, q, a, b, rfl, _⟩ := h
    rfl
  · obtain ⟨z, u, v, t, a, b, c, rfl, ra, ta, tb, tc, fi, go⟩ := h
    refine ⟨_, (pss_cons (ps_set (i := 4) scCentre.nd rfl (Or.inl rfl) (pe_call Z.ok (hr.mono (by decide)) rfl Z.g Z.k Z.b .nil pass0 (pa_cons (pv 0) (pa_cons (pv 1) (pa_cons (pv 2) (pa_cons pe_int (pa_cons pe_int pa_nil)))))))
      (pss_cons (ps_set (i := 5) scCentre.nd rfl (Or.inl rfl) (pe_call Z.ok (hr.mono (by decide)) rfl Z.g Z.k Z.b .nil pass0 (pa_cons (pv 0) (pa_cons (pv 1) (pa_cons (pv 3) (pa_cons pe_int (pa_cons pe_int pa_nil)))))))
      (pss_one (ps_ret (pe_call M.ok (hr.mono (by decide)) rfl M.g M.k M.b .nil pass0 (pa_cons (pv 0) (pa_cons (pv 4) (pa_cons (pe_call T.ok (hr.mono (by decide)) rfl T.g T.k T.b .nil pass0 (pa_cons (pv 0) (pa_cons (pv 4) (pa_cons (pv 1) (pa_cons (pv 2) pa_nil))))) (pa_cons (pv 5) (pa_cons (pe_call T.ok (hr.mono (by decide)) rfl T.g T.k T.b .nil pass0 (pa_cons (pv 0) (pa_cons (pv 5) (pa_cons (pv 1) (pa_cons (pv 3) pa_nil))))) pa_nil)))))))))), ?_⟩
    obtain ⟨g1, g2⟩ := fine_meet fi
    obtain ⟨m1, m2⟩ := fine_cross g1
    obtain ⟨k1, k2⟩ := fine_cross g2
    refine st_asgp (evp_part rfl ra (evp_var rfl ta) (evp_var rfl tb) evi_c evi_c m1) (fun m G1 s1 t1 => ?_)
    refine st_asgp (evp_part rfl (ra.up s1) (evp_var rfl (ta.up s1)) (evp_var rfl (tc.up s1)) evi_c evi_c k1) (fun k G2 s2 t2 => ?_)
    have s12 := s1.trans s2
    have ra2 := ra.up s12
    exact ret_p (p := centreX a b c) (evp_m4 rfl ra2 (evp_var rfl (t1.up s2)) (evp_m3 rfl ra2 (evp_var rfl (t1.up s2)) (evp_var rfl (ta.up s12)) (evp_var rfl (tb.up s12)) m2) (evp_var rfl t2) (evp_m3 rfl ra2 (evp_var rfl t2) (evp_var rfl (ta.up s12)) (evp_var rfl (tc.up s12)) k2) fi) fun x F s3 tx => go x F (s12.trans s3) tx
end
end CN

set_option Elab.async false
set_option linter.all false
set_option maxRecDepth 100000
set_option maxHeartbeats 4000000
set_option autoImplicit false
set_option pp.maxSteps 300
/-! enumerate of a text. Speaks of no program. -/
namespace L2
open PySem PySem.Spec PyProof.Rows
/-- the signs of z, in new pairs with their numbers -/
def Itzn (z : Str) : It :=
  ⟨fun i _ => i < z.cps.size, fun i H v H' => ∃ T c, v = .ref T ∧ H T = none ∧ H' = upd H T (.tup [.int (i : Nat), .str ⟨#[c]⟩]) ∧ z.cps[i]? = some c, fun i _ => i = z.cps.size⟩
section
variable {P : Program} {w : World} {K : PySem.W.Frag} {elts : List Expr} {kk : Nat} {tpos : Pos}
theorem turn_enumS {e it : Addr} {z : Str} {t : Tok} (ne : e ≠ it) :
    Turn P w K (.Tuple elts kk tpos) (Itzn z) [e, it] e (fun i h => (∃ old, IsEnum h e it (0 + ((i : Nat) : Int)) old) ∧ h.IsStrIter it (strIterType z) z t i) where
  mem := by simp
  obj := fun i h st b hb => by
    obtain ⟨⟨old, he⟩, ⟨o, ho, hc, hd⟩⟩ := st
    have e' : b = e ∨ b = it := by simpa using hb
    rcases e' with z | z
    · rw [z]; exact ⟨_, he, fun v q => nomatch q⟩
    · rw [z]; exact ⟨o, ho, fun v q => by rw [hd] at q; cases q⟩
  keep := fun i h h' st k => by
    obtain ⟨⟨old, he⟩, ⟨o, ho, r⟩⟩ := st
    exact ⟨⟨old, k e (by simp) _ he⟩, ⟨o, k it (by simp) o ho, r⟩⟩
  item := by
    intro X hP hw hK hc i pins s σ H E I hf st hg
    subst hP hw hK
    have hh : X.A.in1.handled = none := I.ok.hd hc
    have W := GoesN.enumFrom (prog := X.prog) (w := X.w) (A := X.A) (elts := elts) (x1 := kk) (pos := tpos) 0 (Draws.text (prog := X.prog) (w := X.w) (A := X.A.in1) hh it z t) e ne (by simp [ne]) (by simp)
    refine W.goes i s _ _ hg st fun v h' tk hY st' hk htk => ?_
    obtain ⟨T, t1, u, rfl, hnew, ⟨c, t2, hcz, rfl⟩, oT, hT, hcls, nT, hdat⟩ := hY
    have e1 : (0 + ((i : Nat) : Int)) = ((i : Nat) : Int) := by omega
    rw [e1] at hdat
    have new : ObjOk X.prog X.w (upd H T (.tup [.int (i : Nat), .str ⟨#[c]⟩])) h' T (.tup [.int (i : Nat), .str ⟨#[c]⟩]) :=
      ⟨by show 2 ≤ sizeLine; decide, [.int i t1, .str ⟨#[c]⟩ t2], .cons ⟨t1, rfl⟩ (.cons ⟨t2, rfl⟩ .nil), ⟨oT, hT, hcls, nT, hdat⟩⟩
    have I1 : Inv X pins σ (upd H T (.tup [.int (i : Nat), .str ⟨#[c]⟩])) { s with heap := h', toks := tk } :=
      I.turnedNew (t' := tk) (ch := [e, it]) hk (fun b hb => hf b hb) hnew new
    refine ⟨.ref T, _, I1, rfl, ⟨T, c, rfl, I.hok.fresh hnew, rfl, hcz⟩, st', fun b hb => ?_⟩
    have bT : b < s.heap.objs.size := by
      obtain ⟨⟨_, he⟩, ⟨_, hi, _⟩⟩ := st
      have e' : b = e ∨ b = it := by simpa using hb
      rcases e' with q | q
      · rw [q]; exact Heap.lt_size he
      · rw [q]; exact Heap.lt_size hi
    rw [upd_ne (Nat.ne_of_lt (Nat.lt_of_lt_of_le bT hnew))]
    exact (hf b hb).1
  done := by
    intro X hP hw hK hc i pins s σ H E I hf st hg
    subst hP hw hK
    have hg : i = z.cps.size := hg
    subst hg
    have hh : X.A.in1.handled = none := I.ok.hd hc
    have W := GoesN.enumFrom (prog := X.prog) (w := X.w) (A := X.A) (elts := elts) (x1 := kk) (pos := tpos) 0 (Draws.text (prog := X.prog) (w := X.w) (A := X.A.in1) hh it z t) e ne (by simp [ne]) (by simp)
    refine W.stops s (fun s1 => Inv X pins σ H s1) _ st fun h' tk hk htk => ?_
    exact I.turnedL (t' := tk) (ch := [e, it]) hk fun b hb => hf b hb
  self := fun A i s Q E st h => let ⟨⟨_, he⟩, _⟩ := st; wpAny_pyIter_enum he h
end
def iEnumS (ta : TA) : TI := fun σ H R => ta σ H fun vs H1 => ∃ z : Str, vs = [.str z] ∧ R (Itzn z) H1
theorem pi_enumS {X : Cx} {e : Expr} {ta : TA} {p pos tpos : Pos} {elts : List Expr} {kk : Nat} (hg : Gl X "enumerate") (hm : X.mg "enumerate" = none) (ha : PA X [e] ta) (hs : starEach [e] X.env = [(false, eval e X.env)] := by rfl) :
    PI X (.Tuple elts kk tpos) (.Call (.Name "enumerate" p) [e] [] pos) (iEnumS ta) := by
  refine ⟨fun pins s σ H R I h => ?_⟩
  refine Call_ (ld_blt I hg hm boot_enumerate (PyProof.Rows.callWith_type1 (thn (ha.run pos pins s σ H _ I h) fun us s1 ⟨vs, H1, I1, r1, q1⟩ => ?_) hs rfl))
  obtain ⟨z, ex, q⟩ := q1
  subst ex
  obtain ⟨u, rfl, ⟨t, rfl⟩⟩ := vals1 r1
  refine call_enumerate_str fun h' he hit hsz hk => wpAny_pyIter_enum he ?_
  have I2 : Inv X pins σ H1 { s1 with heap := h' } := I1.kept (t' := s1.toks) hk
  refine ⟨s1.heap.objs.size + 1, [s1.heap.objs.size + 1, s1.heap.objs.size], _, _, H1, rfl, I2, turn_enumS (t := t) (Nat.succ_ne_self _), ⟨⟨.none, he⟩, hit⟩, fun b hb => ?_, q⟩
  have e' : b = s1.heap.objs.size + 1 ∨ b = s1.heap.objs.size := by simpa using hb
  have hle : s1.heap.objs.size ≤ b := by
    rcases e' with z | z
    · rw [z]; exact Nat.le_add_right _ _
    · rw [z]; exact Nat.le_refl _
  exact I1.fpOk hle (I1.hok.fresh hle)
theorem walk_enumS {z : Str} : Walk (Itzn z) z.cps.size (fun _ => True) (fun i H v H' => ∃ T c, v = .ref T ∧ H T = none ∧ H' = upd H T (.tup [.int (i : Nat), .str ⟨#[c]⟩]) ∧ z.cps[i]? = some c) :=
  ⟨fun _ _ hi _ => hi, fun _ _ => rfl, fun _ _ _ _ _ _ y => y⟩
end L2

set_option Elab.async false
set_option linter.all false
set_option maxRecDepth 100000
set_option maxHeartbeats 4000000
set_option autoImplicit false
set_option pp.maxSteps 300
/-! Written dicts by a list; calls with a star of a def that a local holds; tuple of a dict. Speaks of no program. -/
namespace L2
open PySem PySem.Spec PyProof.Rows
/-! ### written dicts -/
def fnd (m : List (Str × V)) (x : Str) : Option V := (m.find? (fun e => decide (e.1 = x))).map (·.2)
structure KTab (K : PySem.W.Frag) (w : World) (a : Addr) (m : List (Str × V)) : Prop where
  ex : ∃ es n, KDict K w a es n ∧ ∀ x, ∃ q, PySem.W.nsIn K a x = some q ∧ ((fnd m x = none ∧ q = none) ∨ ∃ v u, fnd m x = some v ∧ q = some u ∧ RelV v u)
theorem KTab.dct {K : PySem.W.Frag} {w : World} {a : Addr} {m : List (Str × V)} (T : KTab K w a m) {x : Str} {v : V} (h : fnd m x = some v) : KDct K w a x v := by
  obtain ⟨es, n, D, f⟩ := T.ex
  obtain ⟨q, hq, h2⟩ := f x
  rcases h2 with ⟨h2, _⟩ | ⟨v2, u, h2, rfl, r⟩
  · rw [h] at h2; cases h2
  · rw [h] at h2
    cases h2
    exact ⟨es, n, u, D.at_, D.lit, hq, r⟩
def rInTab (K : PySem.W.Frag) (w : World) : R2 := fun x y H Q => ∃ z d m, x = .str z ∧ y = .ref d ∧ KTab K w d m ∧ Q (.bl (fnd m z).isSome) H
def rNotInTab (K : PySem.W.Frag) (w : World) : R2 := fun x y H Q => ∃ z d m, x = .str z ∧ y = .ref d ∧ KTab K w d m ∧ Q (.bl (!(fnd m z).isSome)) H
section
variable {X : Cx}
theorem op_in_tab : OpR X (compareOp .In) (rInTab X.K X.w) := by
  intro pins s σ H x y v u Q I rx ry h
  obtain ⟨z, d, m, ex, ey, T, q⟩ := h
  obtain ⟨es, n, D, f⟩ := T.ex
  obtain ⟨r, hq, h2⟩ := f z
  refine op_in_kd D pins s σ H x y v u Q I rx ry ⟨z, r, ex, ey, hq, ?_⟩
  rcases h2 with ⟨h2, rfl⟩ | ⟨v2, u, h2, rfl, _⟩ <;> rw [h2] at q <;> exact q
theorem op_notin_tab : OpR X (compareOp .NotIn) (rNotInTab X.K X.w) := by
  intro pins s σ H x y v u Q I rx ry h
  obtain ⟨z, d, m, ex, ey, T, q⟩ := h
  obtain ⟨es, n, D, f⟩ := T.ex
  obtain ⟨r, hq, h2⟩ := f z
  refine op_notIn_kd D pins s σ H x y v u Q I rx ry ⟨z, r, ex, ey, hq, ?_⟩
  rcases h2 with ⟨h2, rfl⟩ | ⟨v2, u, h2, rfl, _⟩ <;> rw [h2] at q <;> exact q
/-- d.get(y, z) -/
def tKGet2 (K : PySem.W.Frag) (w : World) (td ty tz : TE) : TE := fun σ H Q => td σ H fun x H1 => ∃ a m, x = .ref a ∧ KTab K w a m ∧ ty σ H1 fun y H2 => tz σ H2 fun z H3 => ∃ s, y = .str s ∧ Q ((fnd m s).getD z) H3
theorem pe_kget2 {o e f : Expr} {apos cpos : Pos} {td ty tx : TE} (ho : PE X o td) (he : PE X e ty) (hf : PE X f tx) (m : M2 X o "get" apos e f cpos) : PE X (.Call (.Attribute o "get" apos) [e, f] [] cpos) (tKGet2 X.K X.w td ty tx) := by
  refine ⟨fun pins s σ H Q I h => ?_⟩
  refine wpAny_Call_method m.base m.few m.line PySem.F.plainAttrs_dict PySem.F.slot_dict_get PySem.F.type_dict_get (thn (ho.run pins s σ H _ I h) fun u s1 ⟨x, H1, I1, rx, a, mm, ex, T, q1⟩ => ?_)
  subst ex
  obtain rfl : u = Value.ref a := rx
  obtain ⟨es, n, D, ff⟩ := T.ex
  refine ⟨kd_type D I1, fun b q => ?_, ?_⟩
  · cases q
    exact ⟨_, I1.kIn _ _ D.at_, rfl⟩
  rw [m.trees]
  refine Calls.callWith_builtin rfl (Calls.evalArgs_plain (Calls.spliced_cons (thn (he.run pins s1 σ H1 _ I1 q1) fun iv s2 ⟨y, H2, I2, ry, q2⟩ =>
    Calls.spliced_cons (thn (hf.run pins s2 σ H2 _ I2 q2) fun fv s3 ⟨z, H3, I3, rz, zs, ey, q3⟩ => Calls.spliced_nil ?_))))
  subst ey
  obtain ⟨t, rfl⟩ := ry
  obtain ⟨r, hq, h2⟩ := ff zs
  have hm := PySem.W.mapOf_K (prog := X.prog) (w := X.w) I3.kIn D.at_ D.lit
  refine call_meetsIn PySem.F.slot_dict_get hm.typeIs PySem.F.entry_dict_get (PySem.F.args_dict_get_3 _ _ _) (meets_dict_get_default (strKind X.prog X.w) a (strKind_is X.prog X.w zs t) D.low fv) ⟨_, hm, ?_⟩
  rw [PySem.W.find_K D.at_ hq]
  rcases h2 with ⟨h2, rfl⟩ | ⟨v2, u2, h2, rfl, r2⟩
  · rw [h2] at q3
    exact ⟨z, H3, I3.tok _, rz, q3⟩
  · rw [h2] at q3
    exact ⟨v2, H3, I3.tok _, r2, q3⟩
end
/-! ### f(a, *b) of a local that holds one of several defs -/
def tCallAS (P : Program) (w : World) (K : PySem.W.Frag) (mg : Str → Option Value) (base : Heap) (k i : Nat) (t : TA) : TE := fun σ H Q => ∃ f sp, σ[i]? = some (some (.ref f)) ∧ Held P w K mg base k f sp ∧ t σ H fun vs H1 => sp vs H1 Q (fun _ _ _ => False)
section
variable {X : Cx} {k i : Nat} {x : Str} {p pos : Pos} {e : Expr} {es : List Expr} {t : TA}
theorem pe_callAS (hr : Room k X.A) (hN : X.N[i]? = some x) (hv : Vis X.env.scope x) (ha : PA X (e :: es) t)
    (hdb : (x == ("__debug__" : Str)) = false := by decide) (hcd : (x == ("__classdict__" : Str)) = false := by decide)
    (he : starEach (e :: es) X.env = (false, eval e X.env) :: starEach es X.env := by rfl) (hst : (backTo pos (starEach es X.env)).any (·.1) = true := by rfl) : PE X (.Call (.Name x p) (e :: es) [] pos) (tCallAS X.prog X.w X.K X.mg X.base k i t) := by
  refine ⟨fun pins s σ H Q I h => ?_⟩
  obtain ⟨f, sp, hs, hS, ht⟩ := h
  obtain ⟨fd, ps, F, hk, hb⟩ := hS.ex
  refine wpAny_Call_Name_kw (thn ((pe_var (pos := p) hN hv hdb hcd).run pins s σ H (fun v H1 => v = .ref f ∧ H1 = H) I ⟨.ref f, hs, rfl, rfl⟩) fun u s1 ⟨v, H1, I1, r1, q1⟩ => ?_)
  obtain ⟨rfl, rfl⟩ := q1
  cases r1
  refine PySem.W.callWith_S2 (h₀ := X.base) I.ok.mod.kin hk (thn (ha.run pos pins s1 σ _ _ I1 ht) fun us s2 ⟨vs, H2, I2, r, q⟩ => ⟨I2.kIn, ?_⟩) he hst
  refine wpAny_call (run_fnR (F.raw hb .nil) hr (E := fun _ _ _ => False) (fun _ _ _ _ _ _ _ z => z.elim) I2 r ?_)
  rw [List.append_nil]
  exact q
/-! ### tuple(d): its keys -/
theorem code_tuple_newD {prog : Program} {w : World} {A : Around} {E : Value → Shared → Prop} {r d : Addr} {n : Nat} {P : Nat → Value → Prop} {OK : Heap → Prop} {s : Shared} {Q₁ : Value → Shared → Prop} (K : PySem.W.KdlSrc prog w "dict" r d n P OK) (hh : A.handled = none) (hok : OK s.heap) (hn : n ≤ sizeLine)
    (h : ∀ (h' : Heap) (tk : Nat) (acc : Array Value), (∀ b o, s.heap.get? b = some o → h'.get? b = some o) → ItemsOf P acc n →
      Q₁ (.ref h'.objs.size) { s with heap := h'.push { cls := .type "tuple", data := .seq acc }, toks := tk }) :
    codeAny (model prog w) A (.call (.builtin "tuple.__new__") ⟨[.type "tuple", .ref r], []⟩) (wants Q₁ E) s := by
  refine codeAny_of_tree ?_
  show wpAny _ A.in1 (do checkBuiltinCall "tuple.__new__" ⟨[.type "tuple", .ref r], []⟩; again (.builtin "tuple.__new__" ⟨[.type "tuple", .ref r], []⟩)) _ _ s
  refine wpAny_bind (wpAny_of_eq (F.newCall_tuple_1 _) (wpAny_pure ⟨plainId_quiet F.plain_tuple_new _, codeAny_builtin F.entry_tuple_new ?_⟩))
  rw [Around.under_plainId F.plain_tuple_new _]
  have hsub := sub_tuple_self
  have hinit := init_tuple_lookup
  have hmh := madeHere_tuple
  have hTI : s.TypeIs (.ref r) "dict" := K.type _ hok
  have hh1 : A.in1.handled = none := hh
  wp_walk using wpAny_typeOf hTI, PySem.W.kdu_collect (A := A.in1) K hh1 hok hn
  intro h' tk acc hk hacc
  show wpAny _ _ (Builtin.Tuple.tupleExact acc.toList.toArray >>= fun v => ret v) _ _ _
  unfold Builtin.Tuple.tupleExact
  refine wpAny_bind (wpAny_newObj_type ?_ (by show acc.toList.toArray.size ≤ sizeLine; simp only [Array.toArray_toList]; rw [hacc.1]; exact hn))
  refine wpAny_pure ?_
  have e : acc.toList.toArray = acc := by simp
  rw [e]
  exact h h' tk acc hk hacc
theorem call_tupleD (hcalm : X.calm = true) : CallR X (.type "tuple") (fun xs H Q => ∃ (a : Addr) (kvs : List (Key × V)), xs = [.ref a] ∧ Rd H a (.dK kvs) ∧ ∀ p, H p = none → Q (.ref p) (upd H p (.tup (kvs.map fun kv => kV kv.1)))) := by
  intro pins s σ H xs us Q I r q
  obtain ⟨a, kvs, ex, hd, q⟩ := q
  subst ex
  obtain ⟨u, eu, rx⟩ := vals1 r
  subst eu
  cases rx
  obtain ⟨z, lo, vs, rel, dd⟩ := dk_rd I.hok hd
  obtain ⟨ep, hat⟩ := dd.dictAt
  have ek : (kvs.map fun kv => kV kv.1) = vs.map fun p => kV p.1 := by
    have e := congrArg (List.map kV) rel.keys
    rw [List.map_map, List.map_map] at e
    exact e
  refine callType_codes (Q₁ := fun obj s₁ => s₁.TypeIs obj "tuple" ∧ EP X pins σ Q obj s₁) F.called_tuple (F.typeCall_tuple_1 _) F.entry_object_init
    (code_tuple_newD (A := X.A.in1) (PySem.W.kdl_dict (knd := mixKind X.prog X.w) (kvs := vs) (ep := ep) lo) (I.ok.hd hcalm) hat (by rw [← rel.length]; exact z) fun h' tk acc hk hacc => ⟨⟨_, Heap.get?_push_size _ rfl, rfl⟩, ?_⟩) fun obj s₁ h₁ => ?_
  · have hv : Vals (vs.map fun p => kV p.1) acc.toList := keys_at (by rw [Array.length_toList]; exact hacc.1) fun j v e => hacc.2 j v (by rw [← Array.getElem?_toList]; exact e)
    have I1 : Inv X pins σ H { s with heap := h', toks := tk } := I.kept hk
    refine ⟨.ref h'.objs.size, upd H h'.objs.size (.tup (kvs.map fun kv => kV kv.1)), I1.laid (t' := tk) (fun b u e => Heap.get?_push_of_some _ e) (Nat.le_refl _)
      (show ObjOk X.prog X.w _ _ _ (.tup (kvs.map fun kv => kV kv.1)) from ?_), rfl, q _ (I1.hok.fresh (Nat.le_refl _))⟩
    refine ⟨by rw [List.length_map]; exact z, acc.toList, by rw [ek]; exact hv, ⟨_, Heap.get?_push_size _ rfl, rfl, 0, ?_⟩⟩
    rw [Array.toArray_toList]
  · exact ⟨h₁.1, F.args_object_init_2 obj _, object_init_meets F.called_tuple.init.lookup F.called_tuple.made (by decide) X.prog X.w X.A.in1 _ s₁ ⟨h₁.1, rfl, h₁.2⟩⟩
end
end L2

set_option Elab.async false
set_option linter.all false
set_option maxRecDepth 100000
set_option maxHeartbeats 4000000
set_option autoImplicit false
set_option pp.maxSteps 300
/-! The errors: made, raised. One promise for classes with one attribute. -/
namespace CN
open PySem L2 K1D K2P
/-- what is shown in an error's text -/
inductive Shown : V → Prop
  | int (n : Nat) (h : n < 1000) : Shown (.int (n : Int))
  | str (y : Str) (h : y.length ≤ 1000) : Shown (.str y)
def spIniE (K : PySem.W.Frag) (C : Addr) (fl : Str) : Sp := fun vs H Q _ => ∃ (a : Addr) (x : V), vs = [.ref a, x] ∧ Shown x ∧ ErrC K C ∧ PySem.W.findIn K (.ref C) fl = some none ∧ H a = some (exo a C none) ∧
  ∀ dx, H dx = none → dx ≠ a → Q .non (upd (upd H dx (exd dx [(fl, x)])) a (exo a C (some dx)))
theorem fits {a b : Str} (h1 : a.length ≤ 1000) (h2 : b.length ≤ 300000) : (a ++ b).length ≤ sizeLine := by
  rw [strLen_append, sizeLine_eq]
  omega
theorem fits2 {a b c : Str} (h1 : a.length ≤ 1000) (h2 : b.length ≤ 300000) (h3 : c.length ≤ 1000) : (a ++ b ++ c).length ≤ sizeLine := by
  rw [strLen_append, strLen_append, sizeLine_eq]
  omega
theorem heap_of {H : Hp} {a d : Addr} {o1 o2 o3 o4 : HO} (na : H a = none) (ne : d ≠ a) : upd (del (upd (upd (upd H a o1) d o2) a o3) a) d o4 = upd H d o4 := by
  funext b
  by_cases hd : b = d
  · rw [hd, upd_same, upd_same]
  · rw [upd_ne hd, upd_ne hd]
    by_cases ha : b = a
    · rw [ha, del_same, na]
    · rw [del_ne ha, upd_ne ha, upd_ne hd, upd_ne ha]
theorem okN {P : Program} {w : World} {K : PySem.W.Frag} {mg : Str → Option Value} {base : Heap} {x qual : Str} {st : Stmt} {f : Addr} {fd : FuncData} {N ps : List Str} {k : Nat} {sp : Sp} (F : Fun K x qual st f fd) (S : FnScope N ps (defScope st)) (len : ∀ vs H Q E, sp vs H Q E → vs.length = ps.length)
    (body : ∀ (cdv : Value) (A : Around) (outer : List Env) (s : Shared) (H : Hp) (vs : List V) (Q : VK) (E : XK), Room k (A.deeper (PyProof.Rows.envOfC qual (defScope st) s.heap.objs.size f cdv)) → sp vs H Q E →
      ∃ t, PSs (cxOf (L2N.CX P w) P w K mg base N qual (defScope st) f cdv A outer s H E) (defBody st) t ∧ t { nx := fun _ H' => Q .non H', rt := Q } (start N vs) H) : FnOk P w K mg base (L2N.CX P w) (k + 1) f fd ps sp := by
  obtain ⟨oc, od, kV, doc, pm, an, cdv, ct, osl, rfl, lk, hcd⟩ := F.ex
  exact fn_of lk hcd S len fun A outer s H vs Q E hr hsp => body cdv A outer s H vs Q E hr hsp
theorem takes0N {X : Cx} : L2N.Takes X (fun _ _ _ _ => False) := fun _ _ ⟨_, _, _, _, _, _, _, _, _, _, _, _, _, _, _, _, z⟩ => z.elim
theorem Nat.log2_lt_self' (n : Nat) (h : n < 1000) : ((n : Int)).natAbs.log2 < 10 := by
  rw [Int.natAbs_natCast]
  by_cases h0 : n = 0
  · subst h0; decide
  · exact (Nat.log2_lt h0).mpr (by omega)
/-- what the written part says of an error's class -/
structure ErrT (P : Program) (w : World) (K : PySem.W.Frag) (mg : Str → Option Value) (base : Heap) (nm fl : Str) (B C fI : Addr) (dI : FuncData) : Prop where
  gC : mg nm = some (.ref C)
  err : ErrC K C
  iC : PySem.W.findIn K (.ref C) "__init__" = some (some (.ref fI))
  tI : PySem.W.typeIn K (.ref fI) = some (.type "function")
  no : PySem.W.findIn K (.ref C) fl = some none
  bd : Binds K dI ["self", fl] []
  ini : FnOk P w K mg base CX0 1 fI dI ["self", fl] (spIniE K C fl)
  exB : PySem.W.exmOne K (.ref C) (.ref B) = some true
  ask : AskC K C
  xf : XfC K C
/-- it is raised, with this -/
def Raises (C : Addr) (fl : Str) (x : V) (H : Hp) (E : XK) : Prop := ∀ (G : Hp) (dd : Addr), Same H G → G dd = none → E (.ref C) (some dd) (upd G dd (.xd [(fl, x)]))
theorem Raises.up {C : Addr} {fl : Str} {x : V} {H G : Hp} {E : XK} (h : Raises C fl x H E) (s : Same H G) : Raises C fl x G E := fun F dd t n => h F dd (s.trans t) n
theorem err_fin {P : Program} {w : World} {K : PySem.W.Frag} {mg : Str → Option Value} {base : Heap} {nm fl : Str} {B C fI : Addr} {dI : FuncData} {H : Hp} {Q : XK} {x : V} (T : ErrT P w K mg base nm fl B C fI dI) (hx : Shown x) (go : Raises C fl x H Q) :
    [x].length ≤ 1000 ∧ ∀ a, H a = none → spIniE K C fl (.ref a :: [x]) (upd H a (exo a C none)) (fun v H2 => v = .non ∧ ∃ (d : Addr) (fs : List (Str × V)), H2 a = some (exo a C (some d)) ∧ H2 d = some (exd d fs) ∧ H d = none ∧ Q (.ref C) (some d) (upd (del H2 a) d (.xd fs))) (fun _ _ _ => False) := by
  refine ⟨by show 1 ≤ 1000; decide, fun a na => ⟨a, x, rfl, hx, T.err, T.no, upd_same, fun dx nd ne => ⟨rfl, dx, _, upd_same, (upd_ne ne).trans upd_same, ?_, ?_⟩⟩⟩
  · rw [upd_ne ne] at nd
    exact nd
  · rw [heap_of na ne]
    rw [upd_ne ne] at nd
    exact go H dx (Same.refl H) nd
abbrev sBadValue : Stmt := inClass (K2P.top 3) 0
section
variable {P : Program} {w : World} {K : PySem.W.Frag} {mg : Str → Option Value} {base : Heap} {B : Addr}
theorem scBadValue : FnScope ["self", "at"] ["self", "at"] (defScope sBadValue) := ⟨rfl, rfl, rfl, by decide +kernel, rfl, by decide +kernel, by decide +kernel⟩
theorem iniBadValue {f C : Addr} {fd : FuncData} (F : Fun K "__init__" "BadValue.__init__" sBadValue f fd) (T : BaseC K B) (gB : mg "FigureError" = some (.ref B)) : FnOk P w K mg base CX0 1 f fd ["self", "at"] (spIniE K C "at") := by
  refine F.ok scBadValue (fun vs H Q E h => ?_) (fun cdv A outer s H vs Q E hr h => ?_)
  · obtain ⟨a, x, rfl, _⟩ := h
    rfl
  · obtain ⟨a, x, rfl, sh, TC, no, ha, go⟩ := h
    refine ⟨_, pss_cons (ps_expr (pe_base T rfl gB (pa_cons (pv 0) (pa_cons (pe_joined (.cons pe_str (.cons (pe_fmt (pv 1)) (.cons pe_str .nil)))) pa_nil)))) (pss_one (ps_field (pv 0) (pv 1))), ?_⟩
    refine ⟨_, rfl, _, rfl, by decide +kernel, _, rfl, ?_⟩
    cases sh with
    | int n h =>
      have hz : ((n : Int)).natAbs.log2 < 1920 := Nat.lt_of_lt_of_le (Nat.log2_lt_self' n h) (by decide)
      exact .inr ⟨n, rfl, hz, _, rfl, fits (by decide +kernel) (Nat.le_trans (PyProof.Rows.int_text_len_1921 hz) (by decide)), _, rfl, fits2 (by decide +kernel) (Nat.le_trans (PyProof.Rows.int_text_len_1921 hz) (by decide)) (by decide +kernel), a, C, _, rfl, by show 1 ≤ 1000; decide, TC, ha, _, rfl, _, rfl, a, C, rfl, TC, no, ha, fun dx n ne => go dx n ne⟩
    | str y h => exact .inl ⟨y, rfl, by rw [sizeLine_eq]; omega, _, rfl, fits (by decide +kernel) (by omega), _, rfl, fits2 (by decide +kernel) (by omega) (by decide +kernel), a, C, _, rfl, by show 1 ≤ 1000; decide, TC, ha, _, rfl, _, rfl, a, C, rfl, TC, no, ha, fun dx n ne => go dx n ne⟩
end
abbrev sBadStep : Stmt := inClass (K2P.top 4) 0
section
variable {P : Program} {w : World} {K : PySem.W.Frag} {mg : Str → Option Value} {base : Heap} {B : Addr}
theorem scBadStep : FnScope ["self", "at"] ["self", "at"] (defScope sBadStep) := ⟨rfl, rfl, rfl, by decide +kernel, rfl, by decide +kernel, by decide +kernel⟩
theorem iniBadStep {f C : Addr} {fd : FuncData} (F : Fun K "__init__" "BadStep.__init__" sBadStep f fd) (T : BaseC K B) (gB : mg "FigureError" = some (.ref B)) : FnOk P w K mg base CX0 1 f fd ["self", "at"] (spIniE K C "at") := by
  refine F.ok scBadStep (fun vs H Q E h => ?_) (fun cdv A outer s H vs Q E hr h => ?_)
  · obtain ⟨a, x, rfl, _⟩ := h
    rfl
  · obtain ⟨a, x, rfl, sh, TC, no, ha, go⟩ := h
    refine ⟨_, pss_cons (ps_expr (pe_base T rfl gB (pa_cons (pv 0) (pa_cons (pe_joined (.cons pe_str (.cons (pe_fmt (pv 1)) (.cons pe_str .nil)))) pa_nil)))) (pss_one (ps_field (pv 0) (pv 1))), ?_⟩
    refine ⟨_, rfl, _, rfl, by decide +kernel, _, rfl, ?_⟩
    cases sh with
    | int n h =>
      have hz : ((n : Int)).natAbs.log2 < 1920 := Nat.lt_of_lt_of_le (Nat.log2_lt_self' n h) (by decide)
      exact .inr ⟨n, rfl, hz, _, rfl, fits (by decide +kernel) (Nat.le_trans (PyProof.Rows.int_text_len_1921 hz) (by decide)), _, rfl, fits2 (by decide +kernel) (Nat.le_trans (PyProof.Rows.int_text_len_1921 hz) (by decide)) (by decide +kernel), a, C, _, rfl, by show 1 ≤ 1000; decide, TC, ha, _, rfl, _, rfl, a, C, rfl, TC, no, ha, fun dx n ne => go dx n ne⟩
    | str y h => exact .inl ⟨y, rfl, by rw [sizeLine_eq]; omega, _, rfl, fits (by decide +kernel) (by omega), _, rfl, fits2 (by decide +kernel) (by omega) (by decide +kernel), a, C, _, rfl, by show 1 ≤ 1000; decide, TC, ha, _, rfl, _, rfl, a, C, rfl, TC, no, ha, fun dx n ne => go dx n ne⟩
end
abbrev sImpossible : Stmt := inClass (K2P.top 5) 0
section
variable {P : Program} {w : World} {K : PySem.W.Frag} {mg : Str → Option Value} {base : Heap} {B : Addr}
theorem scImpossible : FnScope ["self", "name"] ["self", "name"] (defScope sImpossible) := ⟨rfl, rfl, rfl, by decide +kernel, rfl, by decide +kernel, by decide +kernel⟩
theorem iniImpossible {f C : Addr} {fd : FuncData} (F : Fun K "__init__" "Impossible.__init__" sImpossible f fd) (T : BaseC K B) (gB : mg "FigureError" = some (.ref B)) : FnOk P w K mg base CX0 1 f fd ["self", "name"] (spIniE K C "name") := by
  refine F.ok scImpossible (fun vs H Q E h => ?_) (fun cdv A outer s H vs Q E hr h => ?_)
  · obtain ⟨a, x, rfl, _⟩ := h
    rfl
  · obtain ⟨a, x, rfl, sh, TC, no, ha, go⟩ := h
    refine ⟨_, pss_cons (ps_expr (pe_base T rfl gB (pa_cons (pv 0) (pa_cons (pe_joined (.cons pe_str (.cons (pe_fmt (pv 1)) (.cons pe_str .nil)))) pa_nil)))) (pss_one (ps_field (pv 0) (pv 1))), ?_⟩
    refine ⟨_, rfl, _, rfl, by decide +kernel, _, rfl, ?_⟩
    cases sh with
    | int n h =>
      have hz : ((n : Int)).natAbs.log2 < 1920 := Nat.lt_of_lt_of_le (Nat.log2_lt_self' n h) (by decide)
      exact .inr ⟨n, rfl, hz, _, rfl, fits (by decide +kernel) (Nat.le_trans (PyProof.Rows.int_text_len_1921 hz) (by decide)), _, rfl, fits2 (by decide +kernel) (Nat.le_trans (PyProof.Rows.int_text_len_1921 hz) (by decide)) (by decide +kernel), a, C, _, rfl, by show 1 ≤ 1000; decide, TC, ha, _, rfl, _, rfl, a, C, rfl, TC, no, ha, fun dx n ne => go dx n ne⟩
    | str y h => exact .inl ⟨y, rfl, by rw [sizeLine_eq]; omega, _, rfl, fits (by decide +kernel) (by omega), _, rfl, fits2 (by decide +kernel) (by omega) (by decide +kernel), a, C, _, rfl, by show 1 ≤ 1000; decide, TC, ha, _, rfl, _, rfl, a, C, rfl, TC, no, ha, fun dx n ne => go dx n ne⟩
end
abbrev sTooMany : Stmt := inClass (K2P.top 6) 0
section
variable {P : Program} {w : World} {K : PySem.W.Frag} {mg : Str → Option Value} {base : Heap} {B : Addr}
theorem scTooMany : FnScope ["self", "word"] ["self", "word"] (defScope sTooMany) := ⟨rfl, rfl, rfl, by decide +kernel, rfl, by decide +kernel, by decide +kernel⟩
theorem iniTooMany {f C : Addr} {fd : FuncData} (F : Fun K "__init__" "TooMany.__init__" sTooMany f fd) (T : BaseC K B) (gB : mg "FigureError" = some (.ref B)) : FnOk P w K mg base CX0 1 f fd ["self", "word"] (spIniE K C "word") := by
  refine F.ok scTooMany (fun vs H Q E h => ?_) (fun cdv A outer s H vs Q E hr h => ?_)
  · obtain ⟨a, x, rfl, _⟩ := h
    rfl
  · obtain ⟨a, x, rfl, sh, TC, no, ha, go⟩ := h
    refine ⟨_, pss_cons (ps_expr (pe_base T rfl gB (pa_cons (pv 0) (pa_cons (pe_joined (.cons pe_str (.cons (pe_fmt (pv 1)) .nil))) pa_nil)))) (pss_one (ps_field (pv 0) (pv 1))), ?_⟩
    refine ⟨_, rfl, _, rfl, by decide +kernel, _, rfl, ?_⟩
    cases sh with
    | int n h =>
      have hz : ((n : Int)).natAbs.log2 < 1920 := Nat.lt_of_lt_of_le (Nat.log2_lt_self' n h) (by decide)
      exact .inr ⟨n, rfl, hz, _, rfl, fits (by decide +kernel) (Nat.le_trans (PyProof.Rows.int_text_len_1921 hz) (by decide)), a, C, _, rfl, by show 1 ≤ 1000; decide, TC, ha, _, rfl, _, rfl, a, C, rfl, TC, no, ha, fun dx n ne => go dx n ne⟩
    | str y h => exact .inl ⟨y, rfl, by rw [sizeLine_eq]; omega, _, rfl, fits (by decide +kernel) (by omega), a, C, _, rfl, by show 1 ≤ 1000; decide, TC, ha, _, rfl, _, rfl, a, C, rfl, TC, no, ha, fun dx n ne => go dx n ne⟩
end
end CN

set_option Elab.async false
set_option linter.all false
set_option maxRecDepth 100000
set_option maxHeartbeats 4000000
set_option autoImplicit false
set_option pp.maxSteps 300
/-! figurehold.fields: a new Fields. -/
namespace K2P
open PySem L2 K1D
abbrev KS := List (Str × Int)
abbrev sFInit : Stmt := inClass (top 8) 0
def wts (r n : Nat) : List V := (List.range (n + 1)).map fun i => V.int ((r ^ i : Nat) : Int)
theorem wts_succ (r n : Nat) : wts r (n + 1) = wts r n ++ [V.int ((r ^ (n + 1) : Nat) : Int)] := by
  unfold wts
  rw [List.range_succ, List.map_append]
  rfl
theorem wts_len (r n : Nat) : (wts r n).length = n + 1 := by
  unfold wts
  rw [List.length_map, List.length_range]
theorem wts_last (r n : Nat) : atI (wts r n) (-1) = some (V.int ((r ^ n : Nat) : Int)) := by
  cases n with
  | zero => rfl
  | succ n =>
    rw [wts_succ]
    exact atI_last _ _
theorem wts_at {r n i : Nat} (h : i ≤ n) : (wts r n)[i]? = some (V.int ((r ^ i : Nat) : Int)) := by
  unfold wts
  rw [List.getElem?_map, List.getElem?_range (by omega)]
  rfl
def plT (ns : List Str) : KS := ns.zipIdx.map fun x => (x.1, (x.2 : Int))
theorem plT_snoc (ns : List Str) (x : Str) : plT (ns ++ [x]) = plT ns ++ [(x, (ns.length : Int))] := by
  unfold plT
  rw [List.zipIdx_append, List.map_append]
  simp
theorem plT_keys (ns : List Str) : (plT ns).map (·.1) = ns := by
  unfold plT
  rw [List.map_map]
  exact List.zipIdx_map_fst 0 ns
theorem plT_len (ns : List Str) : (plT ns).length = ns.length := by
  unfold plT
  rw [List.length_map, List.length_zipIdx]
theorem putS_new {D : KS} {k : Str} {c : Int} (h : k ∉ D.map (·.1)) : putT D k c = D ++ [(k, c)] := by
  unfold putT
  rw [valT_none.mpr h]
  rfl
theorem plT_at {ns : List Str} (nd : ns.Nodup) {i : Nat} {x : Str} (h : ns[i]? = some x) : valT (plT ns) x = some (i : Int) := by
  rw [valT_mem (by rw [plT_keys]; exact nd)]
  unfold plT
  refine List.mem_map.mpr ⟨(x, i), ?_, rfl⟩
  rw [List.mem_zipIdx_iff_getElem?]
  exact h
/-- a Fields's own attributes -/
def fF (l1 l2 l3 : Addr) : List (Str × V) := [("names", .ref l1), ("weights", .ref l2), ("places", .ref l3)]
theorem nw : ¬ (("names" : Str) = "weights") := by decide +kernel
theorem np : ¬ (("names" : Str) = "places") := by decide +kernel
theorem wp : ¬ (("weights" : Str) = "places") := by decide +kernel
theorem f_names {l : List (Str × V)} {x : V} : (((("names" : Str), x) :: l).lookup ("names" : Str)) = some x := by simp [List.lookup]
theorem f_weights {l : List (Str × V)} {x y : V} : (((("names" : Str), x) :: (("weights" : Str), y) :: l).lookup ("weights" : Str)) = some y := by
  have h : (("weights" : Str) == "names") = false := by decide +kernel
  simp [List.lookup, h]
theorem f_places {l : List (Str × V)} {x y z : V} : (((("names" : Str), x) :: (("weights" : Str), y) :: (("places" : Str), z) :: l).lookup ("places" : Str)) = some z := by
  have h : (("places" : Str) == "names") = false := by decide +kernel
  have h2 : (("places" : Str) == "weights") = false := by decide +kernel
  simp [List.lookup, h, h2]
theorem put1 (x : V) : putF "names" x [] = ([("names", x)] : List (Str × V)) := rfl
theorem put2 (x y : V) : putF "weights" y ([("names", x)] : List (Str × V)) = ([("names", x), ("weights", y)] : List (Str × V)) := by
  show (if ("names" : Str) = "weights" then [(("names" : Str), y)] else (("names" : Str), x) :: putF "weights" y []) = ([("names", x), ("weights", y)] : List (Str × V))
  rw [if_neg nw]
  rfl
theorem put3 (x y z : V) : putF "places" z ([("names", x), ("weights", y)] : List (Str × V)) = ([("names", x), ("weights", y), ("places", z)] : List (Str × V)) := by
  show (if ("names" : Str) = "places" then [(("names" : Str), z), (("weights" : Str), y)] else (("names" : Str), x) :: (if ("weights" : Str) = "places" then [(("weights" : Str), z)] else (("weights" : Str), y) :: putF "places" z [])) = ([("names", x), ("weights", y), ("places", z)] : List (Str × V))
  rw [if_neg np, if_neg wp]
  rfl
/-- at f a Fields with these names and this radix -/
structure FieldsAt (C : Addr) (H : Hp) (f : Addr) (ns : List Str) (r : Nat) : Prop where
  ob : ∃ dx l1 l2 l3, H f = some (.ins C dx (fF l1 l2 l3)) ∧ H l1 = some (.lst (ns.map V.str)) ∧ H l2 = some (.lst (wts r ns.length)) ∧ H l3 = some (.dK (mpT eS (plT ns)))
  nd : ns.Nodup
  n1 : ns.length ≤ 1000
  rk : r < 2 ^ 800
theorem FieldsAt.up {C : Addr} {H G : Hp} {f : Addr} {ns : List Str} {r : Nat} (h : FieldsAt C H f ns r) (s : Same H G) : FieldsAt C G f ns r := by
  obtain ⟨⟨dx, l1, l2, l3, h0, h1, h2, h3⟩, nd, n1, rk⟩ := h
  exact ⟨⟨dx, l1, l2, l3, s _ _ h0, s _ _ h1, s _ _ h2, s _ _ h3⟩, nd, n1, rk⟩
structure FldTxt (K : PySem.W.Frag) (mg : Str → Option Value) (C : Addr) : Prop where
  cl : Cls K C
  nN : NoAttr K C "names"
  nW : NoAttr K C "weights"
  nP : NoAttr K C "places"
  gC : mg "Fields" = some (.ref C)
  list : mg "list" = none
  enum : mg "enumerate" = none
  sum : mg "sum" = none
  tuple : mg "tuple" = none
  sorted : mg "sorted" = none
  len : mg "len" = none
  divmod : mg "divmod" = none
def spFInit (K : PySem.W.Frag) (C : Addr) : Sp := fun vs H Q _ => ∃ (p dx l : Addr) (ns : List Str) (r k : Nat), vs = [.ref p, .ref l, .int r] ∧ H p = some (.ins C dx []) ∧ SqL K H l (ns.map V.str) ∧ ns.Nodup ∧ ns.length ≤ 1000 ∧ r < 2 ^ k ∧ 0 < k ∧ k ≤ 800 ∧
  ∀ (G : Hp), FieldsAt C G p ns r → (∀ b o, H b = some o → b ≠ p → G b = some o) → Q .non G
theorem pow_bits {r k n : Nat} (h : r < 2 ^ k) : (((r ^ n : Nat) : Int)).natAbs < 2 ^ (k * n + 1) := by
  rw [Int.natAbs_natCast, Nat.pow_succ, Nat.pow_mul]
  have := Nat.pow_le_pow_left (Nat.le_of_lt h) n
  have p : 0 < (2 ^ k) ^ n := Nat.pow_pos (Nat.pow_pos (by decide))
  omega
section
variable {P : Program} {w : World} {K : PySem.W.Frag} {mg : Str → Option Value} {base : Heap} {C : Addr}
theorem scFInit : FnScope ["self", "names", "radix", "_", "name", "at"] ["self", "names", "radix"] (defScope sFInit) := ⟨rfl, rfl, rfl, by decide +kernel, rfl, by decide +kernel, by decide +kernel⟩
theorem ok_finit {f : Addr} {fd : FuncData} (F : Fun K "__init__" "Fields.__init__" sFInit f fd) (T : FldTxt K mg C) : FnOk P w K mg base CX0 1 f fd ["self", "names", "radix"] (spFInit K C) := by
  refine F.ok scFInit (fun vs H Q E h => ?_) (fun cdv A outer s H vs Q E hr h => ?_)
  · obtain ⟨p, dx, l, ns, r, k, rfl, _⟩ := h
    rfl
  · obtain ⟨p, dx, l, ns, r, k, rfl, hp, hl, nd, n1, rk, k0, k8, go⟩ := h
    refine ⟨_, (pss_cons (ps_fld (pv 0) (pe_callTy call_list_of (by rfl) T.list (by decide +kernel) (pa_cons (pv 1) pa_nil)) rfl)
      (pss_cons (ps_fld (pv 0) (pe_lst (pa_cons pe_int pa_nil)) rfl)
      (pss_cons (ps_for PassesOwn.never rfl (pi_list (pe_fld (pv 0) rfl)) (pg_name (i := 3) scFInit.nd rfl (Or.inl rfl)) (pss_one (ps_expr (pe_bm PySem.F.plainAttrs_list PySem.F.slot_list_append PySem.F.type_list_append mt_append (pe_fld (pv 0) rfl) (pa_cons (pe_op op_mulW (pe_ix ix_list (pe_fld (pv 0) rfl) (pe_un un_neg pe_int) (fun _ _ => rfl)) (pv 2)) pa_nil)))))
      (pss_one (ps_fld (pv 0) (pe_dc (own := [("name", 4), ("at", 5)]) (g := (gTup K 2 (gCons (gName 5) (gCons (gName 4) gNil)))) (tt := tYes) (tk := (tVar 4)) (tv := (tVar 5)) rfl scFInit.nd (pi_enum (by rfl) T.enum (pa_cons (pe_fld (pv 0) rfl) pa_nil)) (blkOk_by (own := [("name", 4), ("at", 5)]) (N := ["self", "names", "radix", "_", "name", "at"]) (sc := defScope sFInit) (by decide +kernel)) (fun _ _ _ _ _ => (pg_tup rfl (pgs_cons (pg_name (i := 5) scFInit.nd rfl (Or.inl rfl)) (pgs_cons (pg_name (i := 4) scFInit.nd rfl (Or.inl rfl)) pgs_nil)))) (fun _ _ _ _ _ => pts_nil) (fun _ _ _ _ _ => (pv 4)) (fun _ _ _ _ _ => (pv 5))) rfl))))), ?_⟩
    refine ⟨_, rfl, l, _, rfl, .inl hl, fun l1 n1' => ⟨_, rfl, p, C, dx, _, rfl, same_new n1' _ _ hp, T.cl, T.nN, (by show 0 < 1000; decide), ?_⟩⟩
    rw [put1]
    have pl1 : p ≠ l1 := ne_of_none hp n1'
    have e1 : upd (upd H l1 (.lst (ns.map V.str))) p (.ins C dx [("names", .ref l1)]) l1 = some (.lst (ns.map V.str)) := (upd_ne (Ne.symm pl1)).trans upd_same
    have e2 : upd (upd H l1 (.lst (ns.map V.str))) p (.ins C dx [("names", .ref l1)]) p = some (.ins C dx [("names", .ref l1)]) := upd_same
    have o1 : ∀ b o, H b = some o → b ≠ p → upd (upd H l1 (.lst (ns.map V.str))) p (.ins C dx [("names", .ref l1)]) b = some o := fun b o q ne => (upd_ne ne).trans (same_new n1' _ _ q)
    generalize upd (upd H l1 (.lst (ns.map V.str))) p (.ins C dx [("names", .ref l1)]) = H1 at e1 e2 o1 ⊢
    refine ⟨by show 1 ≤ sizeLine; decide, fun l2 n2 => ⟨_, rfl, p, C, dx, _, rfl, same_new n2 _ _ e2, T.cl, T.nW, (by show 1 < 1000; decide), ?_⟩⟩
    rw [put2]
    have pl2 : p ≠ l2 := ne_of_none e2 n2
    have l12 : l1 ≠ l2 := ne_of_none e1 n2
    have f1 : upd (upd H1 l2 (.lst [.int 1])) p (.ins C dx [("names", .ref l1), ("weights", .ref l2)]) l1 = some (.lst (ns.map V.str)) := (upd_ne (Ne.symm pl1)).trans ((upd_ne l12).trans e1)
    have f2 : upd (upd H1 l2 (.lst [.int 1])) p (.ins C dx [("names", .ref l1), ("weights", .ref l2)]) l2 = some (.lst (wts r 0)) := (upd_ne (Ne.symm pl2)).trans upd_same
    have f3 : upd (upd H1 l2 (.lst [.int 1])) p (.ins C dx [("names", .ref l1), ("weights", .ref l2)]) p = some (.ins C dx [("names", .ref l1), ("weights", .ref l2)]) := upd_same
    have o2 : ∀ b o, H b = some o → b ≠ p → upd (upd H1 l2 (.lst [.int 1])) p (.ins C dx [("names", .ref l1), ("weights", .ref l2)]) b = some o := fun b o q ne => (upd_ne ne).trans (same_new n2 _ _ (o1 b o q ne))
    have no2 : ∀ b o, H b = some o → b ≠ p → b ≠ l2 := fun b o q ne z => by rw [← z, o1 b o q ne] at n2; cases n2
    generalize upd (upd H1 l2 (.lst [.int 1])) p (.ins C dx [("names", .ref l1), ("weights", .ref l2)]) = H2 at f1 f2 f3 o2 ⊢
    refine ⟨_, rfl, p, C, dx, _, _, rfl, f3, T.cl, T.nN, f_names, l1, rfl, ⟨_, SqL.of f1⟩, ?_⟩
    refine for_it (walk_list (K := K) (a := l1) (xs := ns.map V.str)) (fun i σ G => ∃ u3 : Option V, σ = [some (.ref p), some (.ref l), some (.int (r : Int)), u3, none, none] ∧ Oth l2 H2 G ∧ G l2 = some (.lst (wts r i)))
      ⟨_, rfl, Oth.refl, f2⟩ (fun i σ G _ ⟨_, _, o, _⟩ => SqL.of (o _ _ l12 f1)) (fun i x σ G G' hi ⟨u3, hσ, o, hw⟩ ⟨e, hv⟩ => ?_) (fun σ G ⟨u3, hσ, o, hw⟩ => ?_)
    · subst hσ e
      have hp2 := o _ _ pl2 f3
      rw [List.length_map] at hi
      have ki : k * i + 1 + k ≤ 1000000 := by
        have : k * i ≤ 800 * 1000 := Nat.mul_le_mul k8 (by omega)
        omega
      refine ⟨_, rfl, p, C, dx, _, _, rfl, hp2, T.cl, T.nW, f_weights, .inl ⟨rfl, _, SqL.of hw⟩, ?_⟩
      refine ⟨_, rfl, p, C, dx, _, _, rfl, hp2, T.cl, T.nW, f_weights, _, rfl, l2, _, _, _, rfl, rfl, SqL.of hw, wts_last r i, _, rfl, _, _, rfl, rfl, wide_mul (pow_bits rk) (by rw [Int.natAbs_natCast]; exact rk) (by omega) k0 ki, ?_⟩
      refine ⟨l2, _, _, rfl, rfl, hw, by rw [wts_len, sizeLine_eq]; omega, ?_⟩
      refine ⟨_, rfl, o.trans Oth.put, ?_⟩
      rw [upd_same, wts_succ]
      congr 3
    · subst hσ
      rw [List.length_map] at hw
      have hp2 := o _ _ pl2 f3
      have hn2 := o _ _ l12 f1
      refine ⟨_, rfl, p, C, dx, _, _, rfl, hp2, T.cl, T.nN, f_names, l1, _, rfl, SqL.of hn2, fun D nD => ?_⟩
      have w0 := walk_enum (K := K) (a := l1) (xs := ns.map V.str)
      refine blk_n (o := fun D => .dK []) (n := (ns.map V.str).length) (fun (i : Nat) (F : Hp) => Same G F ∧ F D = some (.dK (mpT eS (plT (ns.take i)))))
        ⟨same_new nD, upd_same⟩ (fun i F hi ⟨s, _⟩ => w0.goes i F hi (SqL.of (s _ _ hn2))) (fun F ⟨s, _⟩ => w0.stops F (SqL.of (s _ _ hn2))) (fun i F x F' hi ⟨s, hD⟩ hy => ?_) (fun F ⟨s, hD⟩ => ?_)
      · obtain ⟨t, x1, x2, rfl, nt, rfl, ex, hx⟩ := w0.yields i F x F' hi (SqL.of (s _ _ hn2)) hy
        cases ex
        have hx : (ns.map V.str)[i]? = some x2 := hx
        rw [List.getElem?_map] at hx
        obtain ⟨nm, hnm, rfl⟩ := Option.map_eq_some_iff.mp hx
        have st : Same F (upd F t (.tup [.int (i : Nat), .str nm])) := same_new nt
        have ht : upd F t (.tup [.int (i : Nat), .str nm]) t = some (.tup [.int (i : Nat), .str nm]) := upd_same
        generalize upd F t (.tup [.int (i : Nat), .str nm]) = F2 at st ht ⊢
        have hl2 : i < ns.length := (List.getElem?_eq_some_iff.mp hnm).1
        have hD2 := st _ _ hD
        refine ⟨t, _, rfl, SqT.of ht, rfl, _, _, rfl, _, _, rfl, rfl, rfl, _, rfl, _, rfl, _, eS nm, rfl, hD2, by rw [len_mpT, plT_len, List.length_take, sizeLine_eq]; omega, fun b o q => (upd_ne (ne_of_none q nD)).trans (st _ _ (s b o q)), ?_⟩
        rw [upd_same, putK_mpT eS_inj, putS_new, take_snoc hnm, plT_snoc, List.length_take, Nat.min_eq_left (by omega)]
        rw [plT_keys]
        intro q
        obtain ⟨j, hj⟩ := List.mem_iff_getElem?.mp q
        rw [List.getElem?_take] at hj
        split at hj
        · rename_i lj
          have := (List.getElem?_inj (List.getElem?_eq_some_iff.mp hj).1 nd).mp (hj.trans hnm.symm)
          omega
        · cases hj
      · rw [List.length_map, List.take_length] at hD
        refine ⟨_, rfl, p, C, dx, _, rfl, s _ _ hp2, T.cl, T.nP, (by show 2 < 1000; decide), ?_⟩
        rw [put3]
        have Dp : D ≠ p := fun z => by rw [z, hp2] at nD; cases nD
        refine go _ ⟨⟨dx, l1, l2, D, upd_same, (upd_ne (Ne.symm pl1)).trans (s _ _ hn2), (upd_ne (Ne.symm pl2)).trans (s _ _ hw), (upd_ne Dp).trans hD⟩, nd, n1, Nat.lt_of_lt_of_le rk (Nat.pow_le_pow_right (by decide) k8)⟩ fun b ob q ne => (upd_ne ne).trans (s _ _ (o _ _ (no2 b ob q ne) (o2 b ob q ne)))
end
/-! ### key of one unknown -/
abbrev sKey : Stmt := inClass (top 8) 2
theorem fF_key {l1 l2 l3 : Addr} : (fF l1 l2 l3).lookup ("key" : Str) = none := by
  have h : (("key" : Str) == "names") = false := by decide +kernel
  have h2 : (("key" : Str) == "weights") = false := by decide +kernel
  have h3 : (("key" : Str) == "places") = false := by decide +kernel
  simp [fF, List.lookup, h, h2, h3]
def spKey1 (C : Addr) : Sp := fun vs H Q _ => ∃ (f a b : Addr) (ns : List Str) (r i : Nat) (x : Str), vs = [.ref f, .ref a] ∧ FieldsAt C H f ns r ∧ H a = some (.tup [.ref b]) ∧ H b = some (.tup [.str x, .int 1]) ∧ ns[i]? = some x ∧
  ∀ (G : Hp), Same H G → Q (.int ((r ^ i : Nat) : Int)) G
section
variable {P : Program} {w : World} {K : PySem.W.Frag} {mg : Str → Option Value} {base : Heap} {C : Addr}
theorem scKey : FnScope ["self", "monomial", "name", "exponent"] ["self", "monomial"] (defScope sKey) := ⟨rfl, rfl, rfl, by decide +kernel, rfl, by decide +kernel, by decide +kernel⟩
theorem ok_key1 {f : Addr} {fd : FuncData} (F : Fun K "key" "Fields.key" sKey f fd) (T : FldTxt K mg C) : FnOk P w K mg base CX0 1 f fd ["self", "monomial"] (spKey1 C) := by
  refine F.ok scKey (fun vs H Q E h => ?_) (fun cdv A outer s H vs Q E hr h => ?_)
  · obtain ⟨f, a, b, ns, r, i, x, rfl, _⟩ := h
    rfl
  · obtain ⟨p, a, b, ns, r, j, x, rfl, ⟨⟨dx, l1, l2, l3, h0, h1, h2, h3⟩, nd, n1, rk⟩, ha, hb, hj, go⟩ := h
    refine ⟨_, (pss_one (ps_ret (pe_callB (cr_sum rfl) (by rfl) T.sum (by decide +kernel) (pa_cons (pe_lc (own := [("name", 2), ("exponent", 3)]) (g := (gTup K 2 (gCons (gName 2) (gCons (gName 3) gNil)))) (tt := tYes) (te := (tOp (rI CMulW fun i j => .int (i * j)) (tVar 3) (tOp (rIxL K) (tFld K (tVar 0) "weights") (tDGet (tFld K (tVar 0) "places") (tVar 2))))) rfl scKey.nd (pi_tup (pv 1)) (blkOk_by (own := [("name", 2), ("exponent", 3)]) (N := ["self", "monomial", "name", "exponent"]) (sc := defScope sKey) (by decide +kernel)) (fun _ _ _ _ _ => (pg_tup rfl (pgs_cons (pg_name (i := 2) scKey.nd rfl (Or.inl rfl)) (pgs_cons (pg_name (i := 3) scKey.nd rfl (Or.inl rfl)) pgs_nil)))) (fun _ _ _ _ _ => pts_nil) (fun _ _ _ _ _ => (pe_op op_mulW (pv 3) (pe_ix ix_list (pe_fld (pv 0) rfl) (pe_dget (hu1 hr) (pe_fld (pv 0) rfl) (pv 2) (fun _ _ => rfl)) (fun _ _ => rfl))))) pa_nil)))), ?_⟩
    have jl : j < ns.length := (List.getElem?_eq_some_iff.mp hj).1
    refine ⟨_, rfl, a, rfl, ⟨_, SqT.of ha⟩, fun D nD => ?_⟩
    refine lc_it (walk_tup (K := K) (a := a) (xs := [V.ref b])) (fun i G => Same H G ∧ G D = some (.lst (if i = 0 then [] else [V.int ((r ^ j : Nat) : Int)]))) ⟨same_new nD, upd_same⟩ (fun i G _ h => SqT.of (h.1 _ _ ha)) (fun i y G G' hi ⟨sG, hD⟩ ⟨e, hv⟩ => ?_) (fun G ⟨sG, hD⟩ => ?_)
    · subst e
      have i0 : i = 0 := by
        have : i < 1 := hi
        omega
      subst i0
      cases hv
      have gd := DGet.k (k := eS x) (sG _ _ h3)
      have ev : valV (mpT eS (plT ns)) (eS x) = some (.int (j : Int)) := by rw [valV_mpT eS_inj, plT_at nd hj]; rfl
      rw [ev] at gd
      refine ⟨b, _, rfl, SqT.of (sG _ _ hb), rfl, _, _, rfl, _, _, rfl, rfl, rfl, _, rfl, ?_⟩
      refine ⟨_, rfl, p, C, dx, _, _, rfl, sG _ _ h0, T.cl, T.nW, f_weights, _, rfl, p, C, dx, _, _, rfl, sG _ _ h0, T.cl, T.nP, f_places, _, rfl, l3, _, rfl, gd, ?_⟩
      refine ⟨l2, _, _, _, rfl, rfl, SqL.of (sG _ _ h2), atI_nat (wts_at (Nat.le_of_lt jl)), _, _, rfl, rfl, wide_mul (a := 64) (by decide) (pow_bits rk) (by decide) (by omega) (by omega), ?_⟩
      refine ⟨_, hD, by rw [sizeLine_eq]; show 0 < _; omega, fun x o q => (upd_ne (ne_of_none q nD)).trans (sG _ _ q), ?_⟩
      rw [upd_same]
      show some (HO.lst [V.int (1 * ((r ^ j : Nat) : Int))]) = some (HO.lst [V.int ((r ^ j : Nat) : Int)])
      rw [Int.one_mul]
    · refine ⟨D, [((r ^ j : Nat) : Int)], rfl, SqL.of hD, ?_⟩
      have e0 : ([((r ^ j : Nat) : Int)] : List Int).sum = ((r ^ j : Nat) : Int) := by simp
      rw [e0]
      exact go G sG
end
end K2P

set_option Elab.async false
set_option linter.all false
set_option maxRecDepth 100000
set_option maxHeartbeats 4000000
set_option autoImplicit false
/-! Texts of steps and claims: what is told of words, names and integers; no program here. -/
namespace K4
open PySem L2 TL
def lets : List Nat := tl ("abcdefghijklmnopqrstuvwxyz" : Str)
def figs : List Nat := tl ("0123456789" : Str)
theorem figs_iff (c : Nat) : c ∈ figs ↔ 48 ≤ c ∧ c ≤ 57 := by
  have e : figs = [48, 49, 50, 51, 52, 53, 54, 55, 56, 57] := by decide +kernel
  rw [e]
  simp only [List.mem_cons, List.not_mem_nil, or_false]
  omega
theorem lets_iff (c : Nat) : c ∈ lets ↔ 97 ≤ c ∧ c ≤ 122 := by
  have e : lets = [97, 98, 99, 100, 101, 102, 103, 104, 105, 106, 107, 108, 109, 110, 111, 112, 113, 114, 115, 116, 117, 118, 119, 120, 121, 122] := by decide +kernel
  rw [e]
  simp only [List.mem_cons, List.not_mem_nil, or_false]
  omega
theorem len_tl (x : Str) : (tl x).length = x.length := Array.length_toList
/-- a word of one to four small letters -/
def isNm (x : Str) : Bool := (decide (1 ≤ (tl x).length) && decide ((tl x).length ≤ 4)) && (tl x).all fun c => decide (c ∈ lets)
/-- one to nine figures, no nought ahead -/
def isFg (l : List Nat) : Bool := ((decide (1 ≤ l.length) && decide (l.length ≤ 9)) && l.all fun c => decide (c ∈ figs)) && decide (l.head? ≠ some 48)
def body (l : List Nat) : List Nat := if l.head? = some 45 then l.drop 1 else l
def okI (x : Str) : Bool := decide (tl x = [48]) || isFg (body (tl x))
def valI (x : Str) : Int := (PySem.intText? x).getD 0
theorem isFg_all {l : List Nat} (h : isFg l = true) : NumText.AllDigits l ∧ l ≠ [] ∧ l.length ≤ 9 ∧ l.head? ≠ some 48 := by
  unfold isFg at h
  simp only [Bool.and_eq_true, decide_eq_true_eq, List.all_eq_true] at h
  obtain ⟨⟨⟨h1, h2⟩, h3⟩, h4⟩ := h
  exact ⟨fun c hc => (figs_iff c).mp (h3 c hc), fun z => by rw [z] at h1; simp at h1, h2, h4⟩
theorem num_reads_pos {x : Str} (h : NumText.AllDigits (tl x)) (h1 : tl x ≠ []) (h2 : (tl x).length ≤ 9) : ∃ n, PySem.intText? x = some n := ⟨_, intText_digits h h1 (by rw [← len_tl]; omega)⟩
theorem okI_int {x : Str} (h : okI x = true) : PySem.intText? x = some (valI x) ∧ x.length ≤ 10 := by
  have fin : (∃ n, PySem.intText? x = some n) → PySem.intText? x = some (valI x) := fun ⟨n, e⟩ => by unfold valI; rw [e]; rfl
  unfold okI at h
  rw [Bool.or_eq_true] at h
  rcases h with h | h
  · have e := of_decide_eq_true h
    refine ⟨fin (num_reads_pos ?_ (by rw [e]; simp) (by rw [e]; simp)), by rw [← len_tl, e]; simp⟩
    rw [e]
    intro c hc
    rw [List.mem_singleton.mp hc]
    omega
  · obtain ⟨g1, g2, g3, g4⟩ := isFg_all h
    unfold body at g1 g2 g3
    split at g1
    · rename_i q
      rw [if_pos q] at g2 g3
      have e : tl x = 45 :: (tl x).drop 1 := by
        cases ex : tl x with
        | nil => rw [ex] at q; cases q
        | cons a r =>
          rw [ex] at q
          cases q
          rfl
      have lx : x.length = (tl x).length := (len_tl x).symm
      have ll : (tl x).length = ((tl x).drop 1).length + 1 := by
        have := congrArg List.length e
        rw [List.length_cons] at this
        exact this
      exact ⟨fin ⟨_, intText_neg e g1 g2 (by omega)⟩, by omega⟩
    · rename_i q
      rw [if_neg q] at g2 g3
      exact ⟨fin (num_reads_pos g1 g2 g3), by rw [← len_tl]; omega⟩
/-! ### numbers and their texts -/
theorem tl_negnum (n : Nat) : tl (Str.ofString (toString (-((n + 1 : Nat) : Int)))) = 45 :: numL (n + 1) := by
  rw [tl_ofString, show (-((n + 1 : Nat) : Int)) = Int.negSucc n from rfl]
  rw [show toString (Int.negSucc n) = "-" ++ toString (n + 1) from rfl, String.toList_append]
  rw [List.map_append]
  show [45] ++ _ = _
  have := tl_num (n + 1)
  rw [tl_ofString] at this
  exact congrArg ([45] ++ ·) this
theorem numL_head {n : Nat} (h : 0 < n) : (numL n).head? ≠ some 48 := by
  induction n using Nat.strongRecOn with
  | _ n ih =>
    by_cases h9 : n < 10
    · rw [numL_lt h9]
      simp
      omega
    · rw [numL_step (by omega)]
      have := ih (n / 10) (by omega) (by omega)
      cases e : numL (n / 10) with
      | nil => exact absurd e (numL_ne _)
      | cons a r =>
        rw [e] at this
        exact this
theorem isFg_num {n : Nat} (h : 0 < n) (h9 : n < 10 ^ 9) : isFg (numL n) = true := by
  unfold isFg
  simp only [Bool.and_eq_true, decide_eq_true_eq, List.all_eq_true]
  refine ⟨⟨⟨?_, numL_len (by decide) h9⟩, fun c hc => (figs_iff c).mpr (numL_digits n c hc)⟩, numL_head h⟩
  cases e : numL n with
  | nil => exact absurd e (numL_ne n)
  | cons a r => simp
theorem okI_num {i : Int} (h : -(10 ^ 9) < i) (h9 : i < 10 ^ 9) : okI (Str.ofString (toString i)) = true ∧ valI (Str.ofString (toString i)) = i ∧ (tl (Str.ofString (toString i))).length ≤ 10 ∧ 32 ∉ tl (Str.ofString (toString i)) := by
  by_cases z : 0 ≤ i
  · obtain ⟨n, rfl⟩ := Int.eq_ofNat_of_zero_le z
    have h10 : n < 10 ^ 9 := by omega
    have hl : (numL n).length ≤ 9 := numL_len (by decide) h10
    refine ⟨?_, ?_, by rw [tl_num]; omega, by rw [tl_num]; exact numL_free (by omega)⟩
    · unfold okI
      rw [tl_num, Bool.or_eq_true]
      by_cases n0 : n = 0
      · subst n0
        exact .inl (by decide)
      · refine .inr ?_
        unfold body
        rw [if_neg, isFg_num (by omega) h10]
        intro q
        have : 45 ∈ numL n := by
          cases e : numL n with
          | nil => rw [e] at q; cases q
          | cons a r => rw [e] at q; cases q; exact List.mem_cons_self
        exact numL_free (by omega) this
    · unfold valI
      have e := intText_digits (x := Str.ofString (toString (n : Int))) (show NumText.AllDigits (tl _) by rw [tl_num]; exact numL_digits n) (show tl _ ≠ [] by rw [tl_num]; exact numL_ne n) (by rw [← len_tl, tl_num]; omega)
      rw [e]
      show ((NumText.digitsVal (tl _) : Nat) : Int) = _
      rw [tl_num, numL_val]
  · obtain ⟨n, rfl⟩ : ∃ n : Nat, i = -((n + 1 : Nat) : Int) := ⟨(-i).toNat - 1, by omega⟩
    have h10 : n + 1 < 10 ^ 9 := by omega
    have hl : (numL (n + 1)).length ≤ 9 := numL_len (by decide) h10
    refine ⟨?_, ?_, by rw [tl_negnum, List.length_cons]; omega, ?_⟩
    · unfold okI
      rw [tl_negnum, Bool.or_eq_true]
      refine .inr ?_
      rw [show body (45 :: numL (n + 1)) = numL (n + 1) from if_pos rfl]
      exact isFg_num (by omega) h10
    · unfold valI
      rw [intText_neg (tl_negnum n) (numL_digits _) (numL_ne _) (by rw [← len_tl, tl_negnum, List.length_cons]; omega), numL_val]
      rfl
    · rw [tl_negnum]
      intro q
      rcases List.mem_cons.mp q with q | q
      · cases q
      · exact numL_free (by omega) q
theorem isNm_free {x : Str} (h : isNm x = true) : 32 ∉ tl x ∧ (tl x).length ≤ 4 ∧ 1 ≤ (tl x).length := by
  unfold isNm at h
  simp only [Bool.and_eq_true, decide_eq_true_eq, List.all_eq_true] at h
  obtain ⟨⟨h1, h2⟩, h3⟩ := h
  refine ⟨fun q => ?_, h2, h1⟩
  have := (lets_iff 32).mp (h3 32 q)
  omega
/-! ### the forms -/
abbrev Sh := Str × Nat × Nat
def shC : List Sh := [("same", 2, 0), ("on_line", 3, 0), ("parallel", 4, 0), ("perpendicular", 4, 0), ("equal_length", 4, 0), ("equal_area", 6, 0), ("on_circle", 4, 0), ("one_meet", 6, 0)]
def shS : List Sh := [("free", 1, 0), ("slide", 3, 0), ("part", 3, 2), ("shift", 4, 0), ("turn", 4, 0), ("over", 3, 0), ("mirror", 4, 0), ("foot", 4, 0), ("meet", 5, 0), ("second", 4, 0), ("centre", 4, 0)]
def shL (b : Bool) : List Sh := if b = true then shS else shC
def shapeIn (l : List Sh) (z : Str) : Option (Nat × Nat) := (l.find? fun e => decide (e.1 = z)).map (·.2)
def shapeOf (b : Bool) (z : Str) : Option (Nat × Nat) := shapeIn (shL b) z
theorem shapeIn_mem {l : List Sh} {z : Str} {r : Nat × Nat} (h : shapeIn l z = some r) : (z, r) ∈ l := by
  unfold shapeIn at h
  cases e : l.find? fun e => decide (e.1 = z) with
  | none => rw [e] at h; cases h
  | some p =>
    rw [e] at h
    have h1 := List.find?_some e
    have h2 := List.mem_of_find?_eq_some e
    have e3 : p.1 = z := of_decide_eq_true h1
    cases h
    rw [← e3]
    exact h2
theorem shape_facts : ∀ b : Bool, ∀ e ∈ shL b, shapeOf b e.1 = some e.2 ∧ shapeOf (!b) e.1 = none ∧ 32 ∉ tl e.1 ∧ (tl e.1).length ≤ 13 ∧ 1 ≤ e.2.1 ∧ e.2.1 ≤ 6 ∧ e.2.2 ≤ 2 := by
  decide +kernel
theorem shape_lim {b : Bool} {z : Str} {n k : Nat} (h : shapeOf b z = some (n, k)) : 1 ≤ n ∧ n ≤ 6 ∧ k ≤ 2 := by
  have := shape_facts b _ (shapeIn_mem h)
  exact ⟨this.2.2.2.2.1, this.2.2.2.2.2⟩
/-- what words tell by a form -/
def formed (sh : Str → Option (Nat × Nat)) : List Str → Option (List V)
  | [] => none
  | z :: r => match sh z with
    | none => none
    | some (n, k) => if r.length = n + k ∧ ((r.take n).all isNm = true ∧ (r.drop n).all okI = true) then some (.str z :: ((r.take n).map V.str ++ (r.drop n).map fun x => V.int (valI x))) else none
theorem formed_some {sh : Str → Option (Nat × Nat)} {z : Str} {n k : Nat} (h : sh z = some (n, k)) (r : List Str) : formed sh (z :: r) = if r.length = n + k ∧ ((r.take n).all isNm = true ∧ (r.drop n).all okI = true) then some (.str z :: ((r.take n).map V.str ++ (r.drop n).map fun x => V.int (valI x))) else none := by
  show (match sh z with
    | none => none
    | some (n, k) => _) = _
  rw [h]
theorem formed_none {sh : Str → Option (Nat × Nat)} {z : Str} (h : sh z = none) (r : List Str) : formed sh (z :: r) = none := by
  show (match sh z with
    | none => none
    | some (n, k) => _) = _
  rw [h]
def due (b : Bool) (x : Str) : Option (List V) := formed (shapeOf b) (Txt.split x " ")
theorem split_ne (x : Str) : ∃ z r, Txt.split x " " = z :: r := by
  unfold Txt.split
  split
  · exact ⟨_, _, rfl⟩
  · split
    · exact ⟨_, _, rfl⟩
    · rw [StrLaws.partsBetween_eq]
      exact StrLaws.partsFrom_ne _ _ _ _
theorem joinL_len (s : List Nat) : ∀ ps : List (List Nat), ps ≠ [] → (joinL s ps).length = (ps.map List.length).sum + (ps.length - 1) * s.length
  | [], h => absurd rfl h
  | [p], _ => by simp [joinL]
  | p :: q :: r, _ => by
    have ih := joinL_len s (q :: r) (by simp)
    show (p ++ (s ++ joinL s (q :: r))).length = _
    rw [List.length_append, List.length_append, ih]
    simp only [List.map_cons, List.sum_cons, List.length_cons]
    have e : (r.length + 1 + 1 - 1) * s.length = s.length + (r.length + 1 - 1) * s.length := by
      rw [show r.length + 1 + 1 - 1 = (r.length + 1 - 1) + 1 by omega, Nat.succ_mul]
      omega
    omega
theorem sum_le_one {x : Nat} : ∀ {l : List Nat}, x ∈ l → x ≤ l.sum
  | [], h => by cases h
  | a :: l, h => by
    rcases List.mem_cons.mp h with e | h
    · rw [e, List.sum_cons]; omega
    · have := sum_le_one h
      rw [List.sum_cons]; omega
/-- the words of a text: not more than its signs and one; all together not longer -/
theorem split_len (x : Str) : (Txt.split x " ").length ≤ x.length + 1 ∧ ((Txt.split x " ").map (·.length)).sum ≤ x.length ∧ ∀ z ∈ Txt.split x " ", z.length ≤ x.length := by
  have e : tl (Str.join " " (Txt.split x " ")) = tl x := congrArg tl (StrLaws.join_split x " ")
  rw [tl_join] at e
  have l := congrArg List.length e
  obtain ⟨z, r, ez⟩ := split_ne x
  rw [joinL_len _ _ (by rw [ez]; simp), len_tl, List.map_map, List.length_map] at l
  have s1 : ((" " : Str)).length = 1 := by decide +kernel
  rw [s1] at l
  have e2 : (Txt.split x " ").map (List.length ∘ tl) = (Txt.split x " ").map (·.length) := List.map_congr_left fun y _ => len_tl y
  rw [e2] at l
  have n0 : (Txt.split x " ").length = r.length + 1 := by rw [ez, List.length_cons]
  have lx := len_tl x
  refine ⟨by omega, by omega, fun y hy => ?_⟩
  have := sum_le_one (List.mem_map.mpr ⟨y, hy, rfl⟩ : y.length ∈ (Txt.split x " ").map (·.length))
  omega
/-- the text of words without blanks, split -/
theorem split_of {ws : List Str} (h : ws ≠ []) (f : ∀ z ∈ ws, 32 ∉ tl z) : Txt.split (Txt.join " " ws) " " = ws :=
  split_join (y := " ") (s := 32) (S := []) (by decide +kernel) (by decide +kernel) h f
/-- a step, a claim: the word, names, integers -/
structure Thing (b : Bool) (z : Str) (ns : List Str) (is : List Int) : Prop where
  sh : shapeOf b z = some (ns.length, is.length)
  nm : ∀ x ∈ ns, isNm x = true
  im : ∀ i ∈ is, -(10 ^ 9) < i ∧ i < 10 ^ 9
def words (z : Str) (ns : List Str) (is : List Int) : List Str := z :: (ns ++ is.map fun i => Str.ofString (toString i))
def vals (z : Str) (ns : List Str) (is : List Int) : List V := .str z :: (ns.map V.str ++ is.map V.int)
theorem Thing.free {b : Bool} {z : Str} {ns : List Str} {is : List Int} (T : Thing b z ns is) : ∀ y ∈ words z ns is, 32 ∉ tl y ∧ (tl y).length ≤ 13 := by
  intro y hy
  have f := shape_facts b _ (shapeIn_mem T.sh)
  rcases List.mem_cons.mp hy with e | hy
  · rw [e]; exact ⟨f.2.2.1, f.2.2.2.1⟩
  · rcases List.mem_append.mp hy with hy | hy
    · have := isNm_free (T.nm y hy)
      exact ⟨this.1, by omega⟩
    · obtain ⟨i, hi, rfl⟩ := List.mem_map.mp hy
      have := okI_num (T.im i hi).1 (T.im i hi).2
      exact ⟨this.2.2.2, by have := this.2.2.1; omega⟩
theorem Thing.split {b : Bool} {z : Str} {ns : List Str} {is : List Int} (T : Thing b z ns is) : Txt.split (Txt.join " " (words z ns is)) " " = words z ns is :=
  split_of (by unfold words; simp) fun y hy => (T.free y hy).1
theorem Thing.due {b : Bool} {z : Str} {ns : List Str} {is : List Int} (T : Thing b z ns is) : due b (Txt.join " " (words z ns is)) = some (vals z ns is) := by
  unfold K4.due
  rw [T.split]
  unfold words
  rw [formed_some T.sh]
  have e1 : (ns ++ is.map fun i => Str.ofString (toString i)).take ns.length = ns := by simp
  have e2 : (ns ++ is.map fun i => Str.ofString (toString i)).drop ns.length = is.map fun i => Str.ofString (toString i) := by simp
  rw [e1, e2, if_pos]
  · unfold vals
    rw [List.map_map]
    congr 3
    exact List.map_congr_left fun i hi => congrArg V.int (okI_num (T.im i hi).1 (T.im i hi).2).2.1
  · refine ⟨by simp, List.all_eq_true.mpr T.nm, List.all_eq_true.mpr fun y hy => ?_⟩
    obtain ⟨i, hi, rfl⟩ := List.mem_map.mp hy
    exact (okI_num (T.im i hi).1 (T.im i hi).2).1
theorem Thing.other {b : Bool} {z : Str} {ns : List Str} {is : List Int} (T : Thing b z ns is) : K4.due (!b) (Txt.join " " (words z ns is)) = none := by
  unfold K4.due
  rw [T.split]
  unfold words
  exact formed_none (shape_facts b _ (shapeIn_mem T.sh)).2.1 _
theorem sum_le_mul {c : Nat} : ∀ {l : List Nat}, (∀ x ∈ l, x ≤ c) → l.sum ≤ l.length * c
  | [], _ => by simp
  | a :: l, h => by
    have := sum_le_mul (l := l) fun x hx => h x (List.mem_cons_of_mem _ hx)
    have := h a List.mem_cons_self
    rw [List.sum_cons, List.length_cons, Nat.succ_mul]
    omega
theorem Thing.size {b : Bool} {z : Str} {ns : List Str} {is : List Int} (T : Thing b z ns is) : (words z ns is).length ≤ 9 ∧ ((words z ns is).map (·.length)).sum ≤ 117 := by
  have l := shape_lim T.sh
  have h1 : (words z ns is).length ≤ 9 := by
    unfold words
    simp only [List.length_cons, List.length_append, List.length_map]
    omega
  refine ⟨h1, Nat.le_trans (sum_le_mul (c := 13) fun x hx => ?_) ?_⟩
  · obtain ⟨y, hy, rfl⟩ := List.mem_map.mp hx
    rw [← len_tl]
    exact (T.free y hy).2
  · rw [List.length_map]
    omega
theorem join_len (ws : List Str) : (Txt.join " " ws).length ≤ (ws.map (·.length)).sum + ws.length := by
  have := StrLaws.join_length_le " " ws
  rw [show ((" " : Str).length) = 1 from by decide +kernel, Nat.mul_one] at this
  rw [join_eq]
  exact this
theorem Thing.len {b : Bool} {z : Str} {ns : List Str} {is : List Int} (T : Thing b z ns is) : (Txt.join " " (words z ns is)).length ≤ 126 := by
  have := join_len (words z ns is)
  have := T.size
  omega
/-! ### the starts of texts -/
theorem tl_cut1 (x : Str) : tl (cutS x (some 1) none) = (tl x).drop 1 := by
  unfold cutS
  show List.take _ _ = _
  rw [show HT.sIx x.length 0 (some 1) = min 1 x.length from HT.sIx_nat _ _ 1, HT.sIx_none]
  rw [← len_tl]
  cases e : tl x with
  | nil => simp [e]
  | cons a r =>
    have : x.cps.toList = a :: r := e
    rw [this]
    simp
theorem tl_cut0 (x : Str) : tl (cutS x (some 0) none) = tl x := by
  unfold cutS
  show List.take _ _ = _
  rw [show HT.sIx x.length 0 (some 0) = min 0 x.length from HT.sIx_nat _ _ 0, HT.sIx_none, ← len_tl]
  simp only [Nat.zero_min, List.drop_zero, Nat.sub_zero]
  exact List.take_of_length_le (Nat.le_refl _)
theorem tl_cutTo1 (x : Str) : tl (cutS x none (some 1)) = (tl x).take 1 := by
  unfold cutS
  show List.take _ _ = _
  rw [show HT.sIx x.length x.length (some 1) = min 1 x.length from HT.sIx_nat _ _ 1, HT.sIx_none, ← len_tl]
  cases e : tl x with
  | nil => simp [e]
  | cons a r =>
    have : x.cps.toList = a :: r := e
    rw [this]
    simp
theorem head_take (l : List Nat) (c : Nat) : l.take 1 = [c] ↔ l.head? = some c := by
  cases l with
  | nil => simp
  | cons a r => simp
theorem starts_minus (x : Str) : Txt.startswith x "-" = decide ((tl x).head? = some 45) := by
  have e : Txt.startswith x "-" = true ↔ (tl x).head? = some 45 := by
    unfold Txt.startswith
    rw [StrLaws.subAt_eq, show (("-" : Str).length) = 1 from by decide +kernel, show ("-" : Str).cps.toList = [45] from by decide +kernel]
    show (decide (0 + 1 ≤ x.length) && ((tl x).drop 0).take 1 == [45]) = true ↔ _
    rw [List.drop_zero, Bool.and_eq_true, beq_iff_eq, head_take, decide_eq_true_eq]
    refine ⟨fun h => h.2, fun h => ⟨?_, h⟩⟩
    rw [← len_tl]
    cases q : tl x with
    | nil => rw [q] at h; cases h
    | cons a r => simp
  cases h : Txt.startswith x "-" with
  | true => exact (decide_eq_true (e.mp h)).symm
  | false =>
    refine (decide_eq_false fun q => ?_).symm
    rw [e.mpr q] at h
    cases h
end K4

set_option Elab.async false
set_option linter.all false
set_option maxRecDepth 100000
set_option maxHeartbeats 4000000
set_option autoImplicit false
set_option pp.maxSteps 300
/-! Kinds of what is handed in: integers, sequences, names. -/
namespace CN
open PySem L2 K1D K2P TL
open K4 (isNm lets)
theorem lenT (x : Str) : (TL.tl x).length = x.length := Array.length_toList
def isS : V → Bool | .str _ => true | _ => false
def isI : V → Bool | .int _ => true | _ => false
def isB : V → Bool | .bl _ => true | _ => false
/-- a plain value -/
inductive Pl (H : Hp) : V → Prop
  | non : Pl H .non
  | bl (b : Bool) : Pl H (.bl b)
  | int (i : Int) : Pl H (.int i)
  | str (x : Str) (h : x.length ≤ 1000000) : Pl H (.str x)
  | lst {a : Addr} {us : List V} (h : H a = some (.lst us)) : Pl H (.ref a)
  | tup {a : Addr} {us : List V} (h : H a = some (.tup us)) : Pl H (.ref a)
theorem Pl.up {H G : Hp} {v : V} (h : Pl H v) (s : Same H G) : Pl G v := by
  cases h with
  | non => exact .non
  | bl b => exact .bl b
  | int i => exact .int i
  | str x l => exact .str x l
  | lst h => exact .lst (s _ _ h)
  | tup h => exact .tup (s _ _ h)
theorem Pl.ty {K : PySem.W.Frag} {H : Hp} {v : V} (h : Pl H v) : ∃ T, TyOf K H v (.type T) ∧ kitB T "str" = some (isS v) ∧ kitB T "int" = some (isI v || isB v) ∧ kitB T "bool" = some (isB v) := by
  cases h with
  | non => exact ⟨_, .non, by decide +kernel, by decide +kernel, by decide +kernel⟩
  | bl b => exact ⟨_, .bl b, (by decide +kernel : kitB "bool" "str" = some false), (by decide +kernel : kitB "bool" "int" = some true), (by decide +kernel : kitB "bool" "bool" = some true)⟩
  | int i => exact ⟨_, .int i, (by decide +kernel : kitB "int" "str" = some false), (by decide +kernel : kitB "int" "int" = some true), (by decide +kernel : kitB "int" "bool" = some false)⟩
  | str x l => exact ⟨_, .str x, (by decide +kernel : kitB "str" "str" = some true), (by decide +kernel : kitB "str" "int" = some false), (by decide +kernel : kitB "str" "bool" = some false)⟩
  | lst h => exact ⟨_, .lst h, (by decide +kernel : kitB "list" "str" = some false), (by decide +kernel : kitB "list" "int" = some false), (by decide +kernel : kitB "list" "bool" = some false)⟩
  | tup h => exact ⟨_, .tup h, (by decide +kernel : kitB "tuple" "str" = some false), (by decide +kernel : kitB "tuple" "int" = some false), (by decide +kernel : kitB "tuple" "bool" = some false)⟩
/-- a list or a tuple with these items -/
def SeqV (H : Hp) (v : V) (us : List V) : Prop := ∃ a, v = .ref a ∧ (H a = some (.lst us) ∨ H a = some (.tup us))
theorem SeqV.up {H G : Hp} {v : V} {us : List V} (h : SeqV H v us) (s : Same H G) : SeqV G v us := by
  obtain ⟨a, e, h⟩ := h
  exact ⟨a, e, h.elim (fun h => .inl (s _ _ h)) fun h => .inr (s _ _ h)⟩
/-- neither list nor tuple -/
inductive NoSeq : V → Prop
  | non : NoSeq .non
  | bl (b : Bool) : NoSeq (.bl b)
  | int (i : Int) : NoSeq (.int i)
  | str (x : Str) : NoSeq (.str x)
theorem Pl.seq {H : Hp} {v : V} (h : Pl H v) : NoSeq v ∨ ∃ us, SeqV H v us := by
  cases h with
  | non => exact .inl .non
  | bl b => exact .inl (.bl b)
  | int i => exact .inl (.int i)
  | str x l => exact .inl (.str x)
  | lst h => exact .inr ⟨_, _, rfl, .inl h⟩
  | tup h => exact .inr ⟨_, _, rfl, .inr h⟩
theorem SeqV.sq {K : PySem.W.Frag} {H : Hp} {v : V} {us : List V} (h : SeqV H v us) : ∃ a, v = .ref a ∧ (SqL K H a us ∨ SqT K H a us) := by
  obtain ⟨a, e, h⟩ := h
  exact ⟨a, e, h.elim (fun h => .inl (SqL.of h)) fun h => .inr (SqT.of h)⟩
theorem SeqV.tru {K : PySem.W.Frag} {H : Hp} {v : V} {us : List V} (h : SeqV H v us) : TruV K v H (!us.isEmpty) := by
  obtain ⟨a, rfl, h⟩ := h
  exact h.elim (fun h => .inl ⟨us, SqL.of h, rfl⟩) fun h => .inr (.inl ⟨us, SqT.of h, rfl⟩)
/-- one of the items, by its place -/
theorem SeqV.ix {K : PySem.W.Frag} {H : Hp} {v u : V} {us : List V} {Q : VK} {k : Nat} (h : SeqV H v us) (hu : us[k]? = some u) (q : Q u H) : rIx K v (.int (k : Int)) H Q := by
  obtain ⟨a, rfl, h⟩ := h
  exact h.elim (fun h => .inl ⟨a, us, _, u, rfl, rfl, SqL.of h, atI_nat hu, q⟩) fun h => .inr (.inl ⟨a, us, _, u, rfl, rfl, SqT.of h, atI_nat hu, q⟩)
structure KindTxt (K : PySem.W.Frag) (mg : Str → Option Value) : Prop where
  isinst : mg "isinstance" = none
  str : mg "str" = none
  int : mg "int" = none
  bool : mg "bool" = none
  list : mg "list" = none
  tuple : mg "tuple" = none
  len : mg "len" = none
  all : mg "all" = none
  enum : mg "enumerate" = none
  lets : ∃ t, mg "LETTERS" = some (.str "abcdefghijklmnopqrstuvwxyz" t)
  four : ∃ t, mg "LONGEST_NAME" = some (.int 4 t)
abbrev sIsInt : Stmt := K2P.top 12
abbrev sIsSeq : Stmt := K2P.top 13
abbrev sIsName : Stmt := K2P.top 14
def tI (K : PySem.W.Frag) (i : Nat) (T : String) : TE := tCB (rIsi K) (tCons (tVar i) (tCons (tC (.ty T)) tNil))
theorem isi {K : PySem.W.Frag} {σ : L2.St} {H : Hp} {i : Nat} {a T : String} {x : V} {b : Bool} {R : VK} (hs : σ[i]? = some (some x)) (ty : TyOf K H x (.type a)) (k : kitB a T = some b) (go : R (.bl b) H) : tI K i T σ H R :=
  ⟨x, hs, x, .ty T, .type a, .type T, b, rfl, .ty T, .base ty, kit_ty k, go⟩
/-- the same, of any value -/
theorem isiV {K : PySem.W.Frag} {H : Hp} {a T : String} {x : V} {b : Bool} {R : VK} (ty : TyOf K H x (.type a)) (k : kitB a T = some b) (go : R (.bl b) H) : rIsi K [x, .ty T] H R :=
  ⟨x, .ty T, .type a, .type T, b, rfl, .ty T, .base ty, kit_ty k, go⟩
theorem kq {K : PySem.W.Frag} {a : String} {b1 b2 : Bool} (h1 : kitB a "list" = some b1) (h2 : kitB a "tuple" = some b2) : PySem.W.kitAny K (.type a) [.type "list", .type "tuple"] = some (b1 || b2) := by
  refine kitAny_cons (b := b1) (kit_ty h1) (fun e => kitAny_cons (b := b2) (kit_ty h2) (fun e2 => ?_) fun e2 => ?_) fun e => ?_
  · rw [e, e2]; rfl
  · rw [e2, Bool.or_true]
  · rw [e]; rfl
def spIsInt : Sp := fun vs H Q _ => ∃ x : V, vs = [x] ∧ Pl H x ∧ ∀ G, Same H G → Q (.bl (isI x)) G
def spIsSeq : Sp := fun vs H Q _ => ∃ (x : V) (b : Bool), vs = [x] ∧ ((∃ us, SeqV H x us) ∧ b = true ∨ NoSeq x ∧ b = false) ∧ ∀ G, Same H G → Q (.bl b) G
def nmV : V → Bool | .str x => isNm x | _ => false
def spIsName : Sp := fun vs H Q _ => ∃ x : V, vs = [x] ∧ Pl H x ∧ ∀ G, Same H G → Q (.bl (nmV x)) G
def rSign : R2 := fun x y H Q => ∃ (c : Nat) (z : Str), x = .str ⟨#[c]⟩ ∧ y = .str z ∧ Q (.bl (decide (c ∈ z.cps.toList))) H
theorem op_sign {X : Cx} : OpR X (compareOp .In) rSign := op_in_sign
section
variable {P : Program} {w : World} {K : PySem.W.Frag} {mg : Str → Option Value} {base : Heap}
theorem scIsInt : FnScope ["thing"] ["thing"] (defScope sIsInt) := ⟨rfl, rfl, rfl, by decide +kernel, rfl, by decide +kernel, by decide +kernel⟩
theorem scIsSeq : FnScope ["thing"] ["thing"] (defScope sIsSeq) := ⟨rfl, rfl, rfl, by decide +kernel, rfl, by decide +kernel, by decide +kernel⟩
theorem scIsName : FnScope ["thing", "sign"] ["thing"] (defScope sIsName) := ⟨rfl, rfl, rfl, by decide +kernel, rfl, by decide +kernel, by decide +kernel⟩
theorem ok_isint {f : Addr} {fd : FuncData} (F : Fun K "is_integer" "is_integer" sIsInt f fd) (T : KindTxt K mg) : FnOk P w K mg base CX0 1 f fd ["thing"] spIsInt := by
  refine F.ok scIsInt (fun vs H Q E h => ?_) (fun cdv A outer s H vs Q E hr h => ?_)
  · obtain ⟨x, rfl, _⟩ := h
    rfl
  · obtain ⟨x, rfl, pl, go⟩ := h
    refine ⟨_, (pss_one (ps_ret (pe_and (pe_callB call_isi (by rfl) T.isinst (by decide +kernel) (pa_cons (pv 0) (pa_cons (pe_bltn (v := .ty "int") (u := .type "int") (by rfl) T.int (by decide +kernel) (by exact rfl)) pa_nil))) (pe_one (pe_not (pe_callB call_isi (by rfl) T.isinst (by decide +kernel) (pa_cons (pv 0) (pa_cons (pe_bltn (v := .ty "bool") (u := .type "bool") (by rfl) T.bool (by decide +kernel) (by exact rfl)) pa_nil)))))))), ?_⟩
    obtain ⟨t, ty, ks, ki, kb⟩ := pl.ty (K := K)
    refine isi (K := K) rfl ty ki ⟨_, rfl, ?_⟩
    cases hb : (isI x || isB x) with
    | false =>
      refine ifN rfl ?_
      have := go H (Same.refl H)
      rw [show isI x = false by cases h : isI x with | false => rfl | true => rw [h] at hb; cases hb] at this
      exact this
    | true =>
      refine ifY rfl ?_
      refine isi (K := K) rfl ty kb ⟨_, rfl, ?_⟩
      have := go H (Same.refl H)
      rw [show isI x = !isB x by cases x <;> first | rfl | cases hb] at this
      exact this
theorem ok_isseq {f : Addr} {fd : FuncData} (F : Fun K "is_sequence" "is_sequence" sIsSeq f fd) (T : KindTxt K mg) : FnOk P w K mg base CX0 1 f fd ["thing"] spIsSeq := by
  refine F.ok scIsSeq (fun vs H Q E h => ?_) (fun cdv A outer s H vs Q E hr h => ?_)
  · obtain ⟨x, b, rfl, _⟩ := h
    rfl
  · obtain ⟨x, b, rfl, hb, go⟩ := h
    refine ⟨_, (pss_one (ps_ret (pe_callB call_isiT (by rfl) T.isinst (by decide +kernel) (pa_cons (pv 0) (pa_cons (pe_tup (pa_cons (pe_bltn (v := .ty "list") (u := .type "list") (by rfl) T.list (by decide +kernel) (by exact rfl)) (pa_cons (pe_bltn (v := .ty "tuple") (u := .type "tuple") (by rfl) T.tuple (by decide +kernel) (by exact rfl)) pa_nil))) pa_nil))))), ?_⟩
    refine ⟨_, rfl, by show 2 ≤ sizeLine; decide, fun tp nt => ?_⟩
    have s0 : Same H (upd H tp (.tup [.ty "list", .ty "tuple"])) := same_new nt
    have pr : Paired ClsV [V.ty "list", V.ty "tuple"] [Value.type "list", Value.type "tuple"] := .cons (.ty _) (.cons (.ty _) .nil)
    have q := go _ s0
    have hT : upd H tp (.tup [.ty "list", .ty "tuple"]) tp = some (.tup [.ty "list", .ty "tuple"]) := upd_same
    rcases hb with ⟨⟨us, a, rfl, h⟩, rfl⟩ | ⟨ns, rfl⟩
    · rcases h with h | h
      · exact ⟨_, tp, _, _, _, true, rfl, hT, pr, .base (.lst (s0 _ _ h)), kq (b1 := true) (b2 := false) (by decide +kernel) (by decide +kernel), q⟩
      · exact ⟨_, tp, _, _, _, true, rfl, hT, pr, .base (.tup (s0 _ _ h)), kq (b1 := false) (b2 := true) (by decide +kernel) (by decide +kernel), q⟩
    · cases ns with
      | non => exact ⟨_, tp, _, _, _, false, rfl, hT, pr, .base .non, kq (b1 := false) (b2 := false) (by decide +kernel) (by decide +kernel), q⟩
      | bl b => exact ⟨_, tp, _, _, _, false, rfl, hT, pr, .base (.bl b), kq (b1 := false) (b2 := false) (by decide +kernel) (by decide +kernel), q⟩
      | int i => exact ⟨_, tp, _, _, _, false, rfl, hT, pr, .base (.int i), kq (b1 := false) (b2 := false) (by decide +kernel) (by decide +kernel), q⟩
      | str x => exact ⟨_, tp, _, _, _, false, rfl, hT, pr, .base (.str x), kq (b1 := false) (b2 := false) (by decide +kernel) (by decide +kernel), q⟩
/-- [sign in l for sign in x] -/
theorem signs_all {g : TG} {te : TE} {vs : List Nat} {σ : L2.St} {H : Hp} {D : Addr} {x : Str} {l : List Nat} {Qd : Hp → Prop} (nD : H D = none) (lx : x.length ≤ 1000000)
    (turn : ∀ (c : Nat) (G : Hp) (R : VK), R (.bl (decide (c ∈ l))) G → g (.str ⟨#[c]⟩) (wipe σ vs) G fun σ2 H2 => wipe σ2 vs = wipe σ vs ∧ te σ2 H2 R)
    (done : ∀ G, Same H G → G D = some (.lst (((tl x).map fun c => decide (c ∈ l)).map V.bl)) → Qd G) :
    ∃ W : Nat → Nat → Hp → Prop, (∃ m, W 0 m (upd H D (.lst []))) ∧ ∀ i m H, W i m H →
      ((Its x).stop i H ∧ Qd H) ∨ ((Its x).go i H ∧ ∃ Nx : Hp → Prop, (∀ H', Nx H' → ∃ m', m' < m ∧ W (i + 1) m' H') ∧ ∀ v H', (Its x).yld i H v H' → g v (wipe σ vs) H' fun σ2 H2 => wipe σ2 vs = wipe σ vs ∧ tYes σ2 H2 fun b H3 =>
        if b = true then te σ2 H3 fun y H4 => ∃ acc, H4 D = some (.lst acc) ∧ acc.length < sizeLine ∧ Nx (upd H4 D (.lst (acc ++ [y]))) else Nx H3) := by
  refine lc_it (walk_str (z := x)) (fun i G => Same H G ∧ G D = some (.lst ((((tl x).take i).map fun c => decide (c ∈ l)).map V.bl))) ⟨same_new nD, upd_same⟩ (fun _ _ _ _ => trivial) (fun i v G G' hi ⟨sG, hD⟩ ⟨e, c, hc, ev⟩ => ?_) (fun G ⟨sG, hD⟩ => ?_)
  · subst e ev
    have hc' : (tl x)[i]? = some c := by simpa using hc
    refine turn c _ (fun y H4 => ∃ acc, H4 D = some (.lst acc) ∧ acc.length < sizeLine ∧ _) ⟨_, hD, ?_, ?_, ?_⟩
    · rw [List.length_map, List.length_map, List.length_take, lenT, sizeLine_eq]
      omega
    · exact fun b o e => (upd_ne (ne_of_none e nD)).trans (sG b o e)
    · rw [upd_same, K2P.take_snoc hc', List.map_append, List.map_append]
      rfl
  · refine done G sG ?_
    have : x.cps.size = (tl x).length := (lenT x).symm
    rw [this, List.take_length] at hD
    exact hD
theorem all_signs (x : Str) (l : List Nat) : ((tl x).map fun c => decide (c ∈ l)).all id = (tl x).all fun c => decide (c ∈ l) := by
  rw [List.all_map]
  rfl
theorem ok_isname {f : Addr} {fd : FuncData} (F : Fun K "is_name" "is_name" sIsName f fd) (T : KindTxt K mg) : FnOk P w K mg base CX0 1 f fd ["thing"] spIsName := by
  refine F.ok scIsName (fun vs H Q E h => ?_) (fun cdv A outer s H vs Q E hr h => ?_)
  · obtain ⟨x, rfl, _⟩ := h
    rfl
  · obtain ⟨x, rfl, pl, go⟩ := h
    obtain ⟨t4, g4⟩ := T.four
    obtain ⟨tl_, gl⟩ := T.lets
    refine ⟨_, pss_cons (ps_if (PW.pt (pw_or (pt_not (pt_val (pe_callB call_isi (by rfl) T.isinst (by decide +kernel) (pa_cons (pv 0) (pa_cons (pe_bltn (v := .ty "str") (u := .type "str") (by rfl) T.str (by decide +kernel) (by exact rfl)) pa_nil)))))
        (pw_or1 (pt_not (pt_chain op_le op_le pe_int (pe_callB call_len_str (by rfl) T.len PySem.boot_len (pa_cons (pv 0) pa_nil)) (pe_glob (v := .int 4) (by rfl) g4 ⟨t4, rfl⟩)))))) (pss_one (ps_ret pe_bl)) pss_nil)
      (pss_one (ps_ret (pe_callB (cr_all rfl) (by rfl) T.all (by decide +kernel) (pa_cons (pe_lc (own := [("sign", 1)]) (g := gName 1) (te := tOp rSign (tVar 1) (tC (.str "abcdefghijklmnopqrstuvwxyz"))) rfl scIsName.nd (pi_str (pv 0)) (blkOk_by (own := [("sign", 1)]) (N := ["thing", "sign"]) (sc := defScope sIsName) (by decide +kernel))
        (fun _ _ _ _ _ => pg_name (i := 1) scIsName.nd rfl (Or.inl rfl)) (fun _ _ _ _ _ => pts_nil) (fun _ _ _ _ _ => pe_cmpR op_sign (pv 1) (pe_glob (v := .str "abcdefghijklmnopqrstuvwxyz") (by rfl) gl ⟨tl_, rfl⟩) (by rfl))) pa_nil)))), ?_⟩
    obtain ⟨tt, ty, ks, _, _⟩ := pl.ty (K := K)
    refine isi (K := K) rfl ty ks ⟨_, rfl, ?_⟩
    have no : nmV x = false → Q (.bl false) H := fun e => by
      have := go H (Same.refl H)
      rw [e] at this
      exact this
    cases pl with
    | str x lx =>
      refine ifN rfl ?_
      refine ⟨_, rfl, x, rfl, by rw [sizeLine_eq]; omega, _, _, rfl, rfl, _, rfl, ?_⟩
      have l0 := lenT x
      by_cases h1 : 1 ≤ x.length
      · refine ifY (decide_eq_true (by omega)) ⟨_, _, rfl, rfl, _, rfl, ?_⟩
        by_cases h4 : x.length ≤ 4
        · rw [decide_eq_true (show (x.length : Int) ≤ 4 by omega)]
          refine ifN rfl ?_
          refine ⟨_, rfl, x, rfl, fun D nD => ?_⟩
          refine signs_all nD lx (l := lets) (fun c G R q => ⟨rfl, _, rfl, c, "abcdefghijklmnopqrstuvwxyz", rfl, rfl, q⟩) (fun G sG hD => ?_)
          refine ⟨D, _, rfl, SqL.of hD, ?_⟩
          rw [all_signs]
          have e : isNm x = (tl x).all fun c => decide (c ∈ lets) := by
            unfold isNm
            rw [decide_eq_true (by omega), decide_eq_true (by omega)]
            rfl
          rw [← e]
          exact go G sG
        · rw [decide_eq_false (show ¬ (x.length : Int) ≤ 4 by omega)]
          refine ifY rfl (no ?_)
          show isNm x = false
          unfold isNm
          rw [decide_eq_false (show ¬ (tl x).length ≤ 4 by omega), Bool.and_false, Bool.false_and]
      · refine ifN (decide_eq_false (by omega)) ⟨_, rfl, ifY rfl (no ?_)⟩
        show isNm x = false
        unfold isNm
        rw [decide_eq_false (show ¬ 1 ≤ (tl x).length by omega), Bool.false_and, Bool.false_and]
    | non => exact ifY rfl (no rfl)
    | bl b => exact ifY rfl (no rfl)
    | int i => exact ifY rfl (no rfl)
    | lst h => exact ifY rfl (no rfl)
    | tup h => exact ifY rfl (no rfl)
end
end CN

set_option Elab.async false
set_option linter.all false
set_option maxRecDepth 100000
set_option maxHeartbeats 4000000
set_option autoImplicit false
set_option pp.maxSteps 300
/-! figurehold.steps: words, forms, members. -/
namespace CN
open PySem L2 K1D K2P
inductive Wd where
  | free | slide | part | shift | turn | over | mirror | foot | meet | second | centre
  deriving DecidableEq
def wdS : Wd → Str
  | .free => "free" | .slide => "slide" | .part => "part" | .shift => "shift" | .turn => "turn" | .over => "over" | .mirror => "mirror" | .foot => "foot" | .meet => "meet" | .second => "second" | .centre => "centre"
def formT : Wd → Str
  | .free => "" | .slide => "pp" | .part => "ppnd" | .shift => "ppp" | .turn => "ppp" | .over => "pp" | .mirror => "ppp" | .foot => "ppp" | .meet => "pppp" | .second => "ppp" | .centre => "ppp"
def wds : List Wd := [.free, .slide, .part, .shift, .turn, .over, .mirror, .foot, .meet, .second, .centre]
def formsV : List (Str × V) := wds.map fun d => (wdS d, .str (formT d))
def leastV : List (Str × V) := [("n", .int (-100)), ("d", .int 1)]
def wdOf (x : Str) : Option Wd := wds.find? fun d => decide (wdS d = x)
theorem wdOf_wdS : ∀ d : Wd, wdOf (wdS d) = some d := by intro d; cases d <;> decide +kernel
theorem wdOf_eq {x : Str} {d : Wd} (h : wdOf x = some d) : x = wdS d := by
  unfold wdOf at h
  have := List.find?_some h
  exact (of_decide_eq_true (p := wdS d = x) this).symm
theorem fnd_map (f : Wd → V) : ∀ (l : List Wd) (x : Str), fnd (l.map fun d => (wdS d, f d)) x = (l.find? fun d => decide (wdS d = x)).map f
  | [], x => rfl
  | d :: l, x => by
    show ((((wdS d, f d) :: l.map fun d => (wdS d, f d)).find? fun e => decide (e.1 = x)).map (·.2)) = (((d :: l).find? fun d => decide (wdS d = x)).map f)
    rw [List.find?_cons, List.find?_cons]
    by_cases h : wdS d = x
    · simp [h]
    · simp only [h, decide_false]
      exact fnd_map f l x
theorem fnd_forms (x : Str) : fnd formsV x = (wdOf x).map fun d => V.str (formT d) := fnd_map _ wds x
/-- how many points, new unknowns, numbers -/
def arP : Wd → Nat
  | .free => 0 | .slide => 2 | .part => 2 | .shift => 3 | .turn => 3 | .over => 2 | .mirror => 3 | .foot => 3 | .meet => 4 | .second => 3 | .centre => 3
def arU : Wd → Nat
  | .free => 2 | .slide => 1 | _ => 0
def arN : Wd → Nat
  | .part => 2 | _ => 0
theorem form_cps : ∀ d : Wd, (formT d).cps.toList = List.replicate (arP d) 112 ++ (if arN d = 2 then [110, 100] else []) := by intro d; cases d <;> decide +kernel
theorem form_size : ∀ d : Wd, (formT d).cps.size = arP d + arN d := by intro d; cases d <;> decide +kernel
theorem form_len (d : Wd) : (formT d).length = arP d + arN d := form_size d
/-- it has a known word and as many members as that asks -/
def formedL : List V → Bool
  | .str x :: r => match wdOf x with
    | some d => decide (r.length = 1 + (arP d + arN d))
    | none => false
  | _ => false
/-- a member is right -/
def leastN (c : Nat) : Int := if c = 110 then -100 else 1
def memV (names : List Str) (c : Nat) (u : V) : Bool :=
  if c = 112 then (match u with | .str s => decide (s ∈ names) | _ => false) else (match u with | .int i => decide (leastN c ≤ i) && decide (i ≤ 100) | _ => false)
/-- the first wrong one -/
def wrongAt (names : List Str) : List Nat → List V → Option Nat
  | c :: cs, u :: us => if memV names c u = true then (wrongAt names cs us).map (· + 1) else some 0
  | _, _ => none
theorem isiC {K : PySem.W.Frag} {σ : L2.St} {H : Hp} {a T : String} {x : V} {b : Bool} {R : VK} (ty : TyOf K H x (.type a)) (k : kitB a T = some b) (go : R (.bl b) H) : tCons (tC (.ty T)) tNil σ H (fun xs H2 => rIsi K (x :: xs) H2 R) := isiV ty k go
theorem SeqV.ixI {K : PySem.W.Frag} {H : Hp} {v u : V} {us : List V} {Q : VK} {k : Nat} {j : Int} (h : SeqV H v us) (e : j = (k : Int)) (hu : us[k]? = some u) (q : Q u H) : rIx K v (.int j) H Q := by
  subst e
  exact h.ix hu q
def wrongV (o : Option Nat) : V := match o with | some k => .int ((2 + k : Nat) : Int) | none => .non
/-- at d a dict with just these names -/
def NamesD (H : Hp) (d : Addr) (names : List Str) : Prop := ∃ kvs : List (Key × V), H d = some (.dK kvs) ∧ ∀ x : Str, (valV kvs (Sum.inr x : Key)).isSome = decide (x ∈ names)
theorem NamesD.up {H G : Hp} {d : Addr} {names : List Str} (h : NamesD H d names) (s : Same H G) : NamesD G d names := by
  obtain ⟨kvs, h1, h2⟩ := h
  exact ⟨kvs, s _ _ h1, h2⟩
def Pls (H : Hp) (us : List V) : Prop := ∀ u ∈ us, Pl H u
theorem Pls.up {H G : Hp} {us : List V} (h : Pls H us) (s : Same H G) : Pls G us := fun u m => (h u m).up s
/-- the written tables of forms -/
structure StepTxt (K : PySem.W.Frag) (w : World) (mg : Str → Option Value) (dF dU dL dM : Addr) : Prop where
  gF : mg "FORMS" = some (.ref dF)
  gU : mg "UNKNOWNS" = some (.ref dU)
  gL : mg "LEAST" = some (.ref dL)
  gG : ∃ t, mg "GREATEST" = some (.int 100 t)
  tF : KTab K w dF formsV
  tU : KTab K w dU [("free", .str "xy"), ("slide", .str "t")]
  tL : KTab K w dL leastV
  gM : mg "MAKERS" = some (.ref dM)
abbrev sFormed : Stmt := K2P.top 20
abbrev sMember : Stmt := K2P.top 22
abbrev sWrong : Stmt := K2P.top 21
def spFormed : Sp := fun vs H Q _ => ∃ (x : V) (b : Bool), vs = [x] ∧ ((NoSeq x ∧ b = false) ∨ ∃ us, SeqV H x us ∧ Pls H us ∧ us.length < 1000000 ∧ b = formedL us) ∧ ∀ G, Same H G → Q (.bl b) G
def spMember : Sp := fun vs H Q _ => ∃ (u : V) (c : Nat) (d : Addr) (names : List Str), vs = [u, .str ⟨#[c]⟩, .ref d] ∧ Pl H u ∧ (c = 112 ∨ c = 110 ∨ c = 100) ∧ NamesD H d names ∧ ∀ G, Same H G → Q (.bl (memV names c u)) G
def spWrong : Sp := fun vs H Q _ => ∃ (x : V) (d : Addr) (names : List Str) (us : List V) (z nm : V) (wd : Wd), vs = [x, .ref d] ∧ SeqV H x (.str (wdS wd) :: nm :: us) ∧ us.length = arP wd + arN wd ∧ Pls H us ∧ NamesD H d names ∧ ∀ G, Same H G → Q (wrongV (wrongAt names (formT wd).cps.toList us)) G
section
variable {P : Program} {w : World} {K : PySem.W.Frag} {mg : Str → Option Value} {base : Heap} {dF dU dL dM fI fQ fM : Addr} {dI dQ ddM : FuncData}
theorem scFormed : FnScope ["step"] ["step"] (defScope sFormed) := ⟨rfl, rfl, rfl, by decide +kernel, rfl, by decide +kernel, by decide +kernel⟩
theorem scMember : FnScope ["member", "form", "points"] ["member", "form", "points"] (defScope sMember) := ⟨rfl, rfl, rfl, by decide +kernel, rfl, by decide +kernel, by decide +kernel⟩
theorem scWrong : FnScope ["step", "points", "at", "form"] ["step", "points"] (defScope sWrong) := ⟨rfl, rfl, rfl, by decide +kernel, rfl, by decide +kernel, by decide +kernel⟩
theorem ok_formed {f : Addr} {fd : FuncData} (F : Fun K "is_formed" "is_formed" sFormed f fd) (T : KindTxt K mg) (S : StepTxt K w mg dF dU dL dM) (UQ : CallT P w K mg base CX0 1 "is_sequence" ["thing"] spIsSeq fQ dQ) : FnOk P w K mg base CX0 2 f fd ["step"] spFormed := by
  refine F.ok scFormed (fun vs H Q E h => ?_) (fun cdv A outer s H vs Q E hr h => ?_)
  · obtain ⟨x, b, rfl, _⟩ := h
    rfl
  · obtain ⟨x, b, rfl, hb, go⟩ := h
    refine ⟨_, (pss_cons (ps_if (PW.pt (pw_or (pt_not (pt_val (pe_call UQ.ok (hr.mono (by decide)) rfl UQ.g UQ.k UQ.b .nil pass0 (pa_cons (pv 0) pa_nil)))) (pw_or (pt_not (pt_truth (pv 0) (fun _ => rfl))) (pw_or1 (pt_not (pt_val (pe_callB call_isi (by rfl) T.isinst (by decide +kernel) (pa_cons (pe_ix ix_seq (pv 0) pe_int (fun _ _ => rfl)) (pa_cons (pe_bltn (v := .ty "str") (u := .type "str") (by rfl) T.str (by decide +kernel) (by exact rfl)) pa_nil))))))))) (pss_one (ps_ret pe_bl)) pss_nil)
      (pss_one (ps_ret (pe_and (pe_cmpR op_in_tab (pe_ix ix_seq (pv 0) pe_int (fun _ _ => rfl)) (pe_glob (v := .ref dF) (by rfl) S.gF rfl) (by rfl)) (pe_one (pe_cmpR op_eq (pe_callB call_len_seq (by rfl) T.len PySem.boot_len (pa_cons (pv 0) pa_nil)) (pe_op op_add pe_int (pe_callB call_len_str (by rfl) T.len PySem.boot_len (pa_cons (pe_ix ix_kdict (pe_glob (v := .ref dF) (by rfl) S.gF rfl) (pe_ix ix_seq (pv 0) pe_int (fun _ _ => rfl)) (fun _ _ => rfl)) pa_nil))) (nomark _))))))), ?_⟩
    rcases hb with ⟨ns, rfl⟩ | ⟨us, sq, pl, lu, rfl⟩
    · exact ⟨_, rfl, x, false, rfl, .inr ⟨ns, rfl⟩, fun G sG => ⟨_, rfl, ifY rfl (go G sG)⟩⟩
    · refine ⟨_, rfl, x, true, rfl, .inl ⟨⟨us, sq⟩, rfl⟩, fun G sG => ⟨_, rfl, ifN rfl ?_⟩⟩
      have sq := sq.up sG
      have pl := pl.up sG
      refine ⟨_, rfl, _, sq.tru, ?_⟩
      cases us with
      | nil => exact ifY rfl (go G sG)
      | cons u us =>
        refine ifN rfl ?_
        obtain ⟨t, ty, ks, _, _⟩ := (pl u List.mem_cons_self).ty (K := K)
        refine ⟨_, rfl, sq.ix (k := 0) rfl ?_⟩
        refine isiC ty ks ⟨_, rfl, ?_⟩
        cases u with
        | str y =>
          refine ifN rfl ?_
          refine ⟨_, rfl, sq.ix (k := 0) rfl ⟨y, dF, formsV, rfl, rfl, S.tF, ?_⟩⟩
          rw [fnd_forms]
          cases hw : wdOf y with
          | none =>
            refine ⟨false, rfl, ifN rfl ?_⟩
            have := go G sG
            rw [show formedL (.str y :: us) = false by simp only [formedL, hw]] at this
            exact this
          | some d =>
            refine ⟨true, rfl, ifY rfl ?_⟩
            obtain ⟨a, rfl, sqa⟩ := sq.sq (K := K)
            refine ⟨_, rfl, a, _, rfl, sqa, ?_⟩
            refine ⟨_, rfl, sq.ix (k := 0) rfl ⟨dF, y, .str (formT d), rfl, rfl, S.tF.dct (by rw [fnd_forms, hw]; rfl), formT d, rfl, by rw [form_len, sizeLine_eq]; cases d <;> decide, ?_⟩⟩
            refine ⟨_, _, rfl, rfl, rfl, ?_⟩
            have := go G sG
            rw [show formedL (.str y :: us) = decide (V.int ((((V.str y) :: us).length : Nat) : Int) = V.int (2 + ((formT d).length : Int))) by
              simp only [formedL, hw]
              rw [form_len]
              rw [List.length_cons]
              refine decide_eq_decide.mpr ⟨fun e => congrArg V.int (by omega), fun e => ?_⟩
              have e2 : (((us.length + 1 : Nat)) : Int) = 2 + ((arP d + arN d : Nat) : Int) := V.int.inj e
              omega] at this
            exact this
        | non => exact ifY rfl (go G sG)
        | bl b => exact ifY rfl (go G sG)
        | int i => exact ifY rfl (go G sG)
        | _ => exact ifY rfl (go G sG)
theorem ok_member {f : Addr} {fd : FuncData} (F : Fun K "_is_member" "_is_member" sMember f fd) (T : KindTxt K mg) (S : StepTxt K w mg dF dU dL dM) (UI : CallT P w K mg base CX0 1 "is_integer" ["thing"] spIsInt fI dI) : FnOk P w K mg base CX0 2 f fd ["member", "form", "points"] spMember := by
  refine F.ok scMember (fun vs H Q E h => ?_) (fun cdv A outer s H vs Q E hr h => ?_)
  · obtain ⟨u, c, d, names, rfl, _⟩ := h
    rfl
  · obtain ⟨u, c, d, names, rfl, pl, hc, ⟨kvs, hd, hn⟩, go⟩ := h
    obtain ⟨tg, gr⟩ := S.gG
    refine ⟨_, (pss_cons (ps_if (pt_cmpR op_eq (pv 1) pe_str (nomark _)) (pss_one (ps_ret (pe_and (pe_callB call_isi (by rfl) T.isinst (by decide +kernel) (pa_cons (pv 0) (pa_cons (pe_bltn (v := .ty "str") (u := .type "str") (by rfl) T.str (by decide +kernel) (by exact rfl)) pa_nil))) (pe_one (pe_cmp (pc_din (hu1 hr) (pv 0) (pv 2))))))) pss_nil)
      (pss_one (ps_ret (pe_and (pe_call UI.ok (hr.mono (by decide)) rfl UI.g UI.k UI.b .nil pass0 (pa_cons (pv 0) pa_nil)) (pe_one (pe_chain op_le op_le (pe_ix ix_kdict (pe_glob (v := .ref dL) (by rfl) S.gL rfl) (pv 1) (fun _ _ => rfl)) (pv 0) (pe_glob (v := .int 100) (by rfl) gr ⟨tg, rfl⟩))))))), ?_⟩
    refine ⟨_, rfl, rfl, _, rfl, ?_⟩
    by_cases h112 : c = 112
    · subst h112
      refine ifY (decide_eq_true (by decide +kernel)) ?_
      obtain ⟨t, ty, ks, _, _⟩ := pl.ty (K := K)
      refine ⟨u, rfl, ?_⟩
      refine isiC ty ks ⟨_, rfl, ?_⟩
      have q := go H (Same.refl H)
      cases u with
      | str y =>
        refine ifY rfl ⟨_, rfl, _, rfl, d, _, rfl, DGet.k (k := eS y) hd, ?_⟩
        rw [show (valV kvs (eS y)).isSome = decide (y ∈ names) from hn y]
        exact q
      | non => exact ifN rfl q
      | bl b => exact ifN rfl q
      | int i => exact ifN rfl q
      | _ => exact ifN rfl q
    · refine ifN (decide_eq_false (fun e => h112 ?_)) ?_
      · have z2 : (⟨#[c]⟩ : Str) = "p" := V.str.inj e
        have z3 := congrArg (fun y : Str => y.cps.toList) z2
        have z4 : [c] = [112] := z3.trans (by decide +kernel)
        exact (List.cons.inj z4).1
      refine ⟨u, rfl, u, rfl, pl, fun G sG => ⟨_, rfl, ?_⟩⟩
      have q := go G sG
      have lc : ∃ v, fnd leastV ⟨#[c]⟩ = some (.int v) ∧ v = leastN c := by
        rcases hc with rfl | rfl | rfl
        · exact absurd rfl h112
        · exact ⟨_, by decide +kernel, rfl⟩
        · exact ⟨_, by decide +kernel, rfl⟩
      obtain ⟨lv, l1, rfl⟩ := lc
      cases u with
      | int i =>
        refine ifY rfl ⟨_, rfl, dL, _, _, rfl, rfl, S.tL.dct l1, _, rfl, _, _, rfl, rfl, _, rfl, ?_⟩
        unfold memV at q
        rw [if_neg h112] at q
        by_cases h1 : leastN c ≤ i
        · refine ifY (decide_eq_true h1) ⟨_, _, rfl, rfl, ?_⟩
          dsimp only at q
          rw [decide_eq_true h1, Bool.true_and] at q
          exact q
        · refine ifN (decide_eq_false h1) ?_
          dsimp only at q
          rw [decide_eq_false h1, Bool.false_and] at q
          exact q
      | _ =>
        refine ifN rfl ?_
        unfold memV at q
        rw [if_neg h112] at q
        exact q
theorem wrong_go {names : List Str} {cs : List Nat} {us : List V} {i c : Nat} {u : V} (hc : cs[i]? = some c) (hu : us[i]? = some u) : wrongAt names (cs.drop i) (us.drop i) = if memV names c u = true then (wrongAt names (cs.drop (i + 1)) (us.drop (i + 1))).map (· + 1) else some 0 := by
  have lc := (List.getElem?_eq_some_iff.mp hc)
  have lu := (List.getElem?_eq_some_iff.mp hu)
  rw [List.drop_eq_getElem_cons lc.1, List.drop_eq_getElem_cons lu.1, lc.2, lu.2]
  rfl
theorem ok_wrong {f : Addr} {fd : FuncData} (F : Fun K "wrong_behind_name" "wrong_behind_name" sWrong f fd) (T : KindTxt K mg) (S : StepTxt K w mg dF dU dL dM) (UM : CallT P w K mg base CX0 2 "_is_member" ["member", "form", "points"] spMember fM ddM) : FnOk P w K mg base CX0 3 f fd ["step", "points"] spWrong := by
  refine F.ok scWrong (fun vs H Q E h => ?_) (fun cdv A outer s H vs Q E hr h => ?_)
  · obtain ⟨x, d, names, us, z, nm, wd, rfl, _⟩ := h
    rfl
  · obtain ⟨x, d, names, us, z, nm, wd, rfl, sq, lu, pl, nd, go⟩ := h
    refine ⟨_, (pss_cons (ps_for PassesOwn.never rfl (pi_enumS (by rfl) T.enum (pa_cons (pe_ix ix_kdict (pe_glob (v := .ref dF) (by rfl) S.gF rfl) (pe_ix ix_seq (pv 0) pe_int (fun _ _ => rfl)) (fun _ _ => rfl)) pa_nil)) (pg_tup rfl (pgs_cons (pg_name (i := 2) scWrong.nd rfl (Or.inl rfl)) (pgs_cons (pg_name (i := 3) scWrong.nd rfl (Or.inl rfl)) pgs_nil))) (pss_one (ps_if (pt_not (pt_val (pe_call UM.ok (hr.mono (by decide)) rfl UM.g UM.k UM.b .nil pass0 (pa_cons (pe_ix ix_seq (pv 0) (pe_op op_add pe_int (pv 2)) (fun _ _ => rfl)) (pa_cons (pv 3) (pa_cons (pv 1) pa_nil)))))) (pss_one (ps_ret (pe_op op_add pe_int (pv 2)))) pss_nil)))
      (pss_one (ps_ret pe_non))), ?_⟩
    refine ⟨_, rfl, sq.ix (k := 0) rfl ⟨dF, wdS wd, .str (formT wd), rfl, rfl, S.tF.dct (by rw [fnd_forms, wdOf_wdS]; rfl), formT wd, rfl, ?_⟩⟩
    have sz := form_size wd
    refine for_it (walk_enumS (z := formT wd)) (fun i σ G => ∃ u2 u3 : Option V, σ = [some x, some (.ref d), u2, u3] ∧ Same H G ∧ wrongAt names (formT wd).cps.toList us = (wrongAt names ((formT wd).cps.toList.drop i) (us.drop i)).map (· + i))
      ⟨_, _, rfl, Same.refl H, by simp⟩ (fun _ _ _ _ _ => trivial) (fun i y σ G G' hi ⟨u2, u3, hσ, sG, hw⟩ ⟨t, c, e, nt, eG, hc⟩ => ?_) (fun σ G ⟨u2, u3, hσ, sG, hw⟩ => ?_)
    · subst hσ e eG
      have hc' : (formT wd).cps.toList[i]? = some c := by simpa using hc
      have hi' : i < us.length := by rw [lu, ← sz]; exact hi
      have hu := List.getElem?_eq_getElem hi'
      generalize us[i] = u at hu
      have ht : upd G t (.tup [.int (i : Nat), .str ⟨#[c]⟩]) t = some (.tup [.int (i : Nat), .str ⟨#[c]⟩]) := upd_same
      have s2 : Same H (upd G t (.tup [.int (i : Nat), .str ⟨#[c]⟩])) := sG.trans (same_new nt)
      generalize upd G t (.tup [.int (i : Nat), .str ⟨#[c]⟩]) = G2 at ht s2
      have go1 := wrong_go (names := names) hc' hu
      have cm : c = 112 ∨ c = 110 ∨ c = 100 := by
        have m := List.mem_of_getElem? hc'
        rw [form_cps] at m
        rcases List.mem_append.mp m with m | m
        · exact .inl (List.mem_replicate.mp m).2
        · split at m
          · simp at m
            exact .inr m
          · cases m
      refine ⟨t, _, rfl, SqT.of ht, rfl, _, _, rfl, _, _, rfl, rfl, ?_⟩
      refine ⟨_, rfl, ?_⟩
      refine ⟨_, rfl, _, _, rfl, rfl, ?_⟩
      refine (sq.up s2).ixI (k := i + 2) (by omega) hu ⟨_, rfl, _, rfl, u, c, d, names, rfl, (pl u (List.mem_of_getElem? hu)).up s2, cm, nd.up s2, fun G3 s3 => ⟨_, rfl, ?_⟩⟩
      cases hm : memV names c u with
      | true =>
        rw [if_pos hm] at go1
        refine ifN rfl ⟨_, _, rfl, s2.trans s3, ?_⟩
        rw [hw, go1, Option.map_map]
        congr 1
        funext k
        show k + 1 + i = k + (i + 1)
        omega
      | false =>
        rw [if_neg (by rw [hm]; exact Bool.false_ne_true)] at go1
        refine ifY rfl ⟨_, rfl, _, _, rfl, rfl, ?_⟩
        have q := go G3 (s2.trans s3)
        rw [hw, go1] at q
        have e3 : wrongV (Option.map (fun x => x + i) (some 0)) = V.int (2 + (i : Int)) := by
          show V.int ((2 + (0 + i) : Nat) : Int) = _
          congr 1
          omega
        rw [e3] at q
        exact q
    · subst hσ
      have q := go G sG
      have e0 : wrongAt names (formT wd).cps.toList us = none := by
        rw [hw]
        have : (formT wd).cps.toList.drop (formT wd).cps.size = [] := List.drop_eq_nil_of_le (by simp)
        rw [this]
        rfl
      rw [e0] at q
      exact q
end
end CN

set_option Elab.async false
set_option linter.all false
set_option maxRecDepth 100000
set_option maxHeartbeats 4000000
set_option autoImplicit false
set_option pp.maxSteps 300
/-! figurehold.making.made: the point of a step. -/
namespace CN
open PySem L2 K1D K2P
/-- a step of the right form -/
structure Stp where
  w : Wd
  nm : Str
  el : List Str
  nu : List Int
  deriving DecidableEq
def Stp.mem (s : Stp) : List V := s.el.map V.str ++ s.nu.map V.int
def Stp.vals (s : Stp) : List V := .str (wdS s.w) :: .str s.nm :: s.mem
structure Stp.Shp (s : Stp) : Prop where
  el : s.el.length = arP s.w
  nu : s.nu.length = arN s.w
def unkT : Wd → Str
  | .free => "xy" | .slide => "t" | _ => ""
def unkN (nm : Str) (c : Nat) : Str := ((Str.empty ++ ⟨#[c]⟩) ++ "_") ++ nm
def newUnk (s : Stp) : List Str := (unkT s.w).cps.toList.map (unkN s.nm)
theorem unk_size : ∀ d : Wd, (unkT d).cps.size = arU d := by intro d; cases d <;> decide +kernel
theorem ar4 : ∀ d : Wd, arP d ≤ 4 := by intro d; cases d <;> decide
theorem ar2 : ∀ d : Wd, arU d ≤ 2 := by intro d; cases d <;> decide
theorem arN2 : ∀ d : Wd, arN d ≤ 2 := by intro d; cases d <;> decide
theorem newUnk_len (s : Stp) : (newUnk s).length = arU s.w := by
  unfold newUnk
  rw [List.length_map, Array.length_toList, unk_size]
/-- what a step makes of points, unknowns and numbers -/
def mkP : Wd → List P3 → List Px → List Int → P3
  | .free, _, [x, y], _ => placedX x y
  | .slide, [a, b], [t], _ => slidX a b t
  | .part, [a, b], _, [n, d] => partX a b n d
  | .shift, [q, a, b], _, _ => shiftX q a b
  | .turn, [q, a, b], _, _ => turnX q a b
  | .over, [q, c], _, _ => overX q c
  | .mirror, [q, a, b], _, _ => mirrorX q a b
  | .foot, [q, a, b], _, _ => footX q a b
  | .meet, [a, b, c, d], _, _ => meetX a b c d
  | .second, [a, b, o], _, _ => secondX a b o
  | .centre, [a, b, c], _, _ => centreX a b c
  | _, _, _, _ => placedX (.num 0) (.num 0)
def spMkr (C : Addr) (wd : Wd) : Sp := fun vs H Q _ => ∃ (z : V) (ts us : List V) (ps : List P3) (es : List Px) (ns : List Int), vs = z :: (ts ++ (us ++ ns.map V.int)) ∧ RingAt C H z ∧ ts.length = arP wd ∧ Paired (TripE H) ts ps ∧ us.length = arU wd ∧ Paired (TabE H) us es ∧ ns.length = arN wd ∧ Fine3 (mkP wd ps es ns) ∧
  ∀ (x : V) (G : Hp), Same H G → TripE G x (mkP wd ps es ns) → Q x G
theorem pair_get {α β : Type} {F : α → β → Prop} : ∀ {l : List α} {m : List β}, Paired F l m → ∀ {k : Nat} {a : α} {b : β}, l[k]? = some a → m[k]? = some b → F a b
  | _, _, .nil, k, a, b, h, _ => by cases k <;> cases h
  | _, _, .cons f r, 0, a, b, h, g => by cases h; cases g; exact f
  | _, _, .cons f r, k + 1, a, b, h, g => pair_get r (k := k) h g
theorem pr0 {α β : Type} {F : α → β → Prop} {l : List α} {m : List β} (h : Paired F l m) (e : l.length = 0) : l = [] ∧ m = [] := by
  cases h with
  | nil => exact ⟨rfl, rfl⟩
  | cons _ _ => cases e
theorem pr1 {α β : Type} {F : α → β → Prop} {n : Nat} {l : List α} {m : List β} (h : Paired F l m) (e : l.length = n + 1) : ∃ a b l' m', l = a :: l' ∧ m = b :: m' ∧ F a b ∧ Paired F l' m' ∧ l'.length = n := by
  cases h with
  | nil => cases e
  | cons h r => exact ⟨_, _, _, _, rfl, rfl, h, r, Nat.succ.inj e⟩
theorem ln0 {α : Type} {l : List α} (e : l.length = 0) : l = [] := List.length_eq_zero_iff.mp e
theorem ln1 {α : Type} {n : Nat} {l : List α} (e : l.length = n + 1) : ∃ a l', l = a :: l' ∧ l'.length = n := by
  cases l with
  | nil => cases e
  | cons a l => exact ⟨a, l, rfl, Nat.succ.inj e⟩
section
variable {C : Addr} {vs : List V} {H : Hp} {Q : VK} {E : XK}
theorem mk_free (h : spMkr C .free vs H Q E) : spPlaced C vs H Q E := by
  obtain ⟨z, ts, us, ps, es, ns, rfl, hr, l1, p1, l2, p2, l3, fi, go⟩ := h
  obtain ⟨rfl, rfl⟩ := pr0 p1 l1
  obtain ⟨u0, e0, us, es, rfl, rfl, f0, p2, l2⟩ := pr1 p2 l2
  obtain ⟨u1, e1, us, es, rfl, rfl, f1, p2, l2⟩ := pr1 p2 l2
  obtain ⟨rfl, rfl⟩ := pr0 p2 l2
  obtain rfl := ln0 l3
  exact ⟨z, u0, u1, e0, e1, rfl, hr, f0, f1, go⟩
theorem mk_slide (h : spMkr C .slide vs H Q E) : spSlid C vs H Q E := by
  obtain ⟨z, ts, us, ps, es, ns, rfl, hr, l1, p1, l2, p2, l3, fi, go⟩ := h
  obtain ⟨t0, q0, ts, ps, rfl, rfl, f0, p1, l1⟩ := pr1 p1 l1
  obtain ⟨t1, q1, ts, ps, rfl, rfl, f1, p1, l1⟩ := pr1 p1 l1
  obtain ⟨rfl, rfl⟩ := pr0 p1 l1
  obtain ⟨u0, e0, us, es, rfl, rfl, g0, p2, l2⟩ := pr1 p2 l2
  obtain ⟨rfl, rfl⟩ := pr0 p2 l2
  obtain rfl := ln0 l3
  exact ⟨z, t0, t1, u0, q0, q1, e0, rfl, hr, f0, f1, g0, fi, go⟩
theorem mk_part (h : spMkr C .part vs H Q E) : spParted C vs H Q E := by
  obtain ⟨z, ts, us, ps, es, ns, rfl, hr, l1, p1, l2, p2, l3, fi, go⟩ := h
  obtain ⟨t0, q0, ts, ps, rfl, rfl, f0, p1, l1⟩ := pr1 p1 l1
  obtain ⟨t1, q1, ts, ps, rfl, rfl, f1, p1, l1⟩ := pr1 p1 l1
  obtain ⟨rfl, rfl⟩ := pr0 p1 l1
  obtain ⟨rfl, rfl⟩ := pr0 p2 l2
  obtain ⟨n, ns1, e1, l4⟩ := ln1 l3
  obtain ⟨d, ns2, e2, l5⟩ := ln1 l4
  obtain rfl := ln0 l5
  subst e2
  subst e1
  exact ⟨z, t0, t1, q0, q1, n, d, rfl, hr, f0, f1, fi, go⟩
theorem mk_over (h : spMkr C .over vs H Q E) : spM2 C overX vs H Q E := by
  obtain ⟨z, ts, us, ps, es, ns, rfl, hr, l1, p1, l2, p2, l3, fi, go⟩ := h
  obtain ⟨t0, q0, ts, ps, rfl, rfl, f0, p1, l1⟩ := pr1 p1 l1
  obtain ⟨t1, q1, ts, ps, rfl, rfl, f1, p1, l1⟩ := pr1 p1 l1
  obtain ⟨rfl, rfl⟩ := pr0 p1 l1
  obtain ⟨rfl, rfl⟩ := pr0 p2 l2
  obtain rfl := ln0 l3
  exact ⟨z, t0, t1, q0, q1, rfl, hr, f0, f1, fi, go⟩
theorem mk_three {wd : Wd} {f : P3 → P3 → P3 → P3} (a : arP wd = 3) (b : arU wd = 0) (c : arN wd = 0) (e : ∀ p q r, mkP wd [p, q, r] [] [] = f p q r) (h : spMkr C wd vs H Q E) : spM3 C f vs H Q E := by
  obtain ⟨z, ts, us, ps, es, ns, rfl, hr, l1, p1, l2, p2, l3, fi, go⟩ := h
  rw [a] at l1
  rw [b] at l2
  rw [c] at l3
  obtain ⟨t0, q0, ts, ps, rfl, rfl, f0, p1, l1⟩ := pr1 p1 l1
  obtain ⟨t1, q1, ts, ps, rfl, rfl, f1, p1, l1⟩ := pr1 p1 l1
  obtain ⟨t2, q2, ts, ps, rfl, rfl, f2, p1, l1⟩ := pr1 p1 l1
  obtain ⟨rfl, rfl⟩ := pr0 p1 l1
  obtain ⟨rfl, rfl⟩ := pr0 p2 l2
  obtain rfl := ln0 l3
  rw [e] at fi go
  exact ⟨z, t0, t1, t2, q0, q1, q2, rfl, hr, f0, f1, f2, fi, go⟩
theorem mk_meet (h : spMkr C .meet vs H Q E) : spM4 C meetX vs H Q E := by
  obtain ⟨z, ts, us, ps, es, ns, rfl, hr, l1, p1, l2, p2, l3, fi, go⟩ := h
  obtain ⟨t0, q0, ts, ps, rfl, rfl, f0, p1, l1⟩ := pr1 p1 l1
  obtain ⟨t1, q1, ts, ps, rfl, rfl, f1, p1, l1⟩ := pr1 p1 l1
  obtain ⟨t2, q2, ts, ps, rfl, rfl, f2, p1, l1⟩ := pr1 p1 l1
  obtain ⟨t3, q3, ts, ps, rfl, rfl, f3, p1, l1⟩ := pr1 p1 l1
  obtain ⟨rfl, rfl⟩ := pr0 p1 l1
  obtain ⟨rfl, rfl⟩ := pr0 p2 l2
  obtain rfl := ln0 l3
  exact ⟨z, t0, t1, t2, t3, q0, q1, q2, q3, rfl, hr, f0, f1, f2, f3, fi, go⟩
end
/-- the table of makers -/
structure MakersT (P : Program) (w : World) (K : PySem.W.Frag) (mg : Str → Option Value) (base : Heap) (C dM : Addr) (mk : Wd → Addr) : Prop where
  tab : KTab K w dM (wds.map fun d => (wdS d, V.ref (mk d)))
  held : ∀ d, Held P w K mg base 8 (mk d) (spMkr C d)
theorem held_of {P : Program} {w : World} {K : PySem.W.Frag} {mg : Str → Option Value} {base : Heap} {f : Addr} {fd : FuncData} {ps : List Str} {sp sp' : Sp} {k : Nat} (F : FnOk P w K mg base CX0 k f fd ps sp) (kf : PySem.W.keepIn K (.ref f) = true) (b : Binds K fd ps []) (h : k ≤ 8) (i : ∀ vs H Q E, sp' vs H Q E → sp vs H Q E) : Held P w K mg base 8 f sp' :=
  ⟨⟨fd, ps, (F.mono h).imp i, kf, b⟩⟩
abbrev sElders : Stmt := K2P.top 23
abbrev sNewUnk : Stmt := K2P.top 24
abbrev sMade : Stmt := K2P.top 41
def tUnk (K : PySem.W.Frag) : TE := fun σ H Q => tJs [tFmt (tVar 1), tC (.str "_"), tFmt (tOp (rIx K) (tVar 0) (tC (.int 1)))] Str.empty σ H fun out H1 => Q (.str out) H1
def spElders : Sp := fun vs H Q _ => ∃ (x : V) (s : Stp), vs = [x] ∧ s.Shp ∧ SeqV H x s.vals ∧ ∀ (p : Addr) (G : Hp), Same H G → G p = some (.tup (s.el.map V.str)) → Q (.ref p) G
def spNewUnk : Sp := fun vs H Q _ => ∃ (x : V) (s : Stp), vs = [x] ∧ s.nm.length ≤ 1000 ∧ SeqV H x s.vals ∧ ∀ (p : Addr) (G : Hp), Same H G → G p = some (.tup ((newUnk s).map V.str)) → Q (.ref p) G
/-- at t the triples of these points; at d the tables of the unknowns -/
def TrisD (H : Hp) (t : Addr) (tri : Str → Option P3) : Prop := ∃ kvs : List (Key × V), H t = some (.dK kvs) ∧ ∀ x p, tri x = some p → ∃ v, valV kvs (Sum.inr x : Key) = some v ∧ TripE H v p
def UnkD (H : Hp) (d : Addr) (us : List Str) : Prop := ∃ kvs : List (Key × V), H d = some (.dK kvs) ∧ ∀ (i : Nat) x, us[i]? = some x → ∃ v, valV kvs (Sum.inr x : Key) = some v ∧ TabE H v (.var i)
theorem TrisD.up {H G : Hp} {t : Addr} {tri : Str → Option P3} (h : TrisD H t tri) (s : Same H G) : TrisD G t tri := by
  obtain ⟨kvs, h1, h2⟩ := h
  exact ⟨kvs, s _ _ h1, fun x p e => (h2 x p e).elim fun v ⟨a, b⟩ => ⟨v, a, b.up s⟩⟩
theorem UnkD.up {H G : Hp} {d : Addr} {us : List Str} (h : UnkD H d us) (s : Same H G) : UnkD G d us := by
  obtain ⟨kvs, h1, h2⟩ := h
  exact ⟨kvs, s _ _ h1, fun i x e => (h2 i x e).elim fun v ⟨a, b⟩ => ⟨v, a, b.up s⟩⟩
def varsX (k n : Nat) : List Px := (List.range n).map fun i => .var (k + i)
def Stp.mk3 (s : Stp) (tri : Str → Option P3) (k : Nat) : P3 := mkP s.w (s.el.map fun x => (tri x).getD (placedX (.num 0) (.num 0))) (varsX k (arU s.w)) s.nu
def spMade (C : Addr) : Sp := fun vs H Q _ => ∃ (z : V) (a t d : Addr) (s : Stp) (tri : Str → Option P3) (us : List Str), vs = [z, .ref a, .ref t, .ref d] ∧ s.Shp ∧ s.nm.length ≤ 1000 ∧ RingAt C H z ∧ H a = some (.tup s.vals) ∧ TrisD H t tri ∧ (∀ x ∈ s.el, (tri x).isSome = true) ∧
  UnkD H d (us ++ newUnk s) ∧ Fine3 (s.mk3 tri us.length) ∧ ∀ (x : V) (G : Hp), Same H G → TripE G x (s.mk3 tri us.length) → Q x G
section
variable {P : Program} {w : World} {K : PySem.W.Frag} {mg : Str → Option Value} {base : Heap} {dF dU dL dM fE fN C : Addr} {dE dN : FuncData} {mk : Wd → Addr}
theorem scElders : FnScope ["step", "at", "form"] ["step"] (defScope sElders) := ⟨rfl, rfl, rfl, by decide +kernel, rfl, by decide +kernel, by decide +kernel⟩
theorem scNewUnk : FnScope ["step", "letter"] ["step"] (defScope sNewUnk) := ⟨rfl, rfl, rfl, by decide +kernel, rfl, by decide +kernel, by decide +kernel⟩
theorem scMade : FnScope ["ring", "step", "triples", "unknowns", "named", "found", "maker", "name"] ["ring", "step", "triples", "unknowns"] (defScope sMade) := ⟨rfl, rfl, rfl, by decide +kernel, rfl, by decide +kernel, by decide +kernel⟩
theorem ok_elders {f : Addr} {fd : FuncData} (F : Fun K "elders" "elders" sElders f fd) (T : KindTxt K mg) (S : StepTxt K w mg dF dU dL dM) : FnOk P w K mg base CX0 1 f fd ["step"] spElders := by
  refine F.ok scElders (fun vs H Q E h => ?_) (fun cdv A outer s H vs Q E hr h => ?_)
  · obtain ⟨x, s, rfl, _⟩ := h
    rfl
  · obtain ⟨x, s, rfl, shp, sq, go⟩ := h
    refine ⟨_, (pss_one (ps_ret (pe_tupleOf (by rfl) T.tuple (pe_lc (own := [("at", 1), ("form", 2)]) (g := (gTup K 2 (gCons (gName 1) (gCons (gName 2) gNil)))) (tt := (tTest (tOp rEq (tVar 2) (tC (.str "p"))))) (te := (tOp (rIx K) (tVar 0) (tOp (rI0 fun i j => .int (i + j)) (tC (.int 2)) (tVar 1)))) rfl scElders.nd (pi_enumS (by rfl) T.enum (pa_cons (pe_ix ix_kdict (pe_glob (v := .ref dF) (by rfl) S.gF rfl) (pe_ix ix_seq (pv 0) pe_int (fun _ _ => rfl)) (fun _ _ => rfl)) pa_nil)) (blkOk_by (own := [("at", 1), ("form", 2)]) (N := ["step", "at", "form"]) (sc := defScope sElders) (by decide +kernel)) (fun _ _ _ _ _ => (pg_tup rfl (pgs_cons (pg_name (i := 1) scElders.nd rfl (Or.inl rfl)) (pgs_cons (pg_name (i := 2) scElders.nd rfl (Or.inl rfl)) pgs_nil)))) (fun _ _ _ _ _ => (pts_one (pt_cmpR op_eq (pv 2) pe_str (nomark _)))) (fun _ _ _ _ _ => (pe_ix ix_seq (pv 0) (pe_op op_add pe_int (pv 1)) (fun _ _ => rfl))))))), ?_⟩
    refine ⟨_, rfl, sq.ix (k := 0) rfl ⟨dF, wdS s.w, .str (formT s.w), rfl, rfl, S.tF.dct (by rw [fnd_forms, wdOf_wdS]; rfl), formT s.w, rfl, fun D nD => ?_⟩⟩
    have sz := form_size s.w
    have fc := form_cps s.w
    have se := shp.el
    refine lc_it (walk_enumS (z := formT s.w)) (fun i G => Same H G ∧ G D = some (.lst ((s.el.take i).map V.str))) ⟨same_new nD, upd_same⟩ (fun _ _ _ _ => trivial) (fun i y G G' hi ⟨sG, hD⟩ ⟨t, c, e, nt, eG, hc⟩ => ?_) (fun G ⟨sG, hD⟩ => ?_)
    · subst e eG
      have hc' : (formT s.w).cps.toList[i]? = some c := by simpa using hc
      have ht : upd G t (.tup [.int (i : Nat), .str ⟨#[c]⟩]) t = some (.tup [.int (i : Nat), .str ⟨#[c]⟩]) := upd_same
      have s1 : Same G (upd G t (.tup [.int (i : Nat), .str ⟨#[c]⟩])) := same_new nt
      have hD2 := s1 _ _ hD
      have s2 := sG.trans s1
      generalize upd G t (.tup [.int (i : Nat), .str ⟨#[c]⟩]) = G2 at ht s2 hD2
      refine ⟨t, _, rfl, SqT.of ht, rfl, _, _, rfl, _, _, rfl, rfl, rfl, _, rfl, rfl, _, rfl, ?_⟩
      rw [fc] at hc'
      by_cases hi2 : i < arP s.w
      · rw [List.getElem?_append_left (by rw [List.length_replicate]; exact hi2), List.getElem?_replicate_of_lt hi2] at hc'
        cases hc'
        have lt : i < s.el.length := by omega
        refine ifY (decide_eq_true (by decide +kernel)) ⟨_, rfl, _, rfl, _, _, rfl, rfl, ?_⟩
        have hv : s.vals[i + 2]? = some (.str s.el[i]) := by
          show (s.el.map V.str ++ s.nu.map V.int)[i]? = _
          rw [List.getElem?_append_left (by rw [List.length_map]; exact lt), List.getElem?_map, List.getElem?_eq_getElem lt]
          rfl
        refine (sq.up s2).ixI (k := i + 2) (by omega) hv ⟨_, hD2, by rw [List.length_map, List.length_take, sizeLine_eq]; have := ar4 s.w; omega, fun b o q => (upd_ne (ne_of_none q nD)).trans (s2 _ _ q), ?_⟩
        rw [upd_same, K2P.take_snoc (List.getElem?_eq_getElem lt), List.map_append]
        rfl
      · have cne : c ≠ 112 := by
          rw [List.getElem?_append_right (by rw [List.length_replicate]; omega)] at hc'
          split at hc'
          · have := List.mem_of_getElem? hc'
            simp at this
            omega
          · cases hc'
        refine ifN (decide_eq_false fun e => cne ?_) ⟨s2, ?_⟩
        · have z2 : (⟨#[c]⟩ : Str) = "p" := V.str.inj e
          have z3 := congrArg (fun y : Str => y.cps.toList) z2
          have z4 : [c] = [112] := z3.trans (by decide +kernel)
          exact (List.cons.inj z4).1
        · rw [hD2, List.take_of_length_le (by omega), List.take_of_length_le (by omega)]
    · rw [List.take_of_length_le (by omega)] at hD
      exact .inl ⟨D, _, rfl, SqL.of hD, fun q nq => go q _ (sG.trans (same_new nq)) upd_same⟩
theorem ok_newunk {f : Addr} {fd : FuncData} (F : Fun K "new_unknowns" "new_unknowns" sNewUnk f fd) (T : KindTxt K mg) (S : StepTxt K w mg dF dU dL dM) : FnOk P w K mg base CX0 1 f fd ["step"] spNewUnk := by
  refine F.ok scNewUnk (fun vs H Q E h => ?_) (fun cdv A outer s H vs Q E hr h => ?_)
  · obtain ⟨x, s, rfl, _⟩ := h
    rfl
  · obtain ⟨x, s, rfl, ln, sq, go⟩ := h
    refine ⟨_, (pss_one (ps_ret (pe_tupleOf (by rfl) T.tuple (pe_lc (own := [("letter", 1)]) (g := (gName 1)) (tt := tYes) (te := (tUnk K)) rfl scNewUnk.nd (pi_str (pe_kget2 (pe_glob (v := .ref dU) (by rfl) S.gU rfl) (pe_ix ix_seq (pv 0) pe_int (fun _ _ => rfl)) pe_str ⟨rfl, rfl, rfl, rfl⟩)) (blkOk_by (own := [("letter", 1)]) (N := ["step", "letter"]) (sc := defScope sNewUnk) (by decide +kernel)) (fun _ _ _ _ _ => (pg_name (i := 1) scNewUnk.nd rfl (Or.inl rfl))) (fun _ _ _ _ _ => pts_nil) (fun _ _ _ _ _ => (pe_joined (.cons (pe_fmt (pv 1)) (.cons pe_str (.cons (pe_fmt (pe_ix ix_seq (pv 0) pe_int (fun _ _ => rfl))) .nil))))))))), ?_⟩
    have eu : (fnd [("free", V.str "xy"), ("slide", V.str "t")] (wdS s.w)).getD (.str "") = .str (unkT s.w) := by cases s.w <;> decide +kernel
    refine ⟨dU, _, rfl, S.tU, _, rfl, sq.ix (k := 0) rfl ⟨wdS s.w, rfl, unkT s.w, eu, fun D nD => ?_⟩⟩
    have sz := unk_size s.w
    refine lc_it (walk_str (z := unkT s.w)) (fun i G => Same H G ∧ G D = some (.lst (((newUnk s).take i).map V.str))) ⟨same_new nD, upd_same⟩ (fun _ _ _ _ => trivial) (fun i y G G' hi ⟨sG, hD⟩ ⟨e, c, hc, ev⟩ => ?_) (fun G ⟨sG, hD⟩ => ?_)
    · subst e ev
      have hc' : (unkT s.w).cps.toList[i]? = some c := by simpa using hc
      have hn : (newUnk s)[i]? = some (unkN s.nm c) := by
        unfold newUnk
        rw [List.getElem?_map, hc']
        rfl
      have sl : (sizeLine : Nat) = 16777216 := sizeLine_eq
      have l1 : (Str.empty ++ (⟨#[c]⟩ : Str)).length = 1 := by rw [strLen_append]; rfl
      have l2 : ("_" : Str).length = 1 := by decide +kernel
      refine ⟨rfl, _, rfl, .inl ⟨⟨#[c]⟩, rfl, by show 1 ≤ sizeLine; decide, _, rfl, by rw [l1, sl]; decide, _, rfl, by rw [strLen_append, l1, l2, sl]; decide, _, rfl, (sq.up sG).ix (k := 1) rfl (.inl ⟨s.nm, rfl, by rw [sl]; omega, _, rfl, by rw [strLen_append, strLen_append, l1, l2, sl]; omega, ?_⟩)⟩⟩
      refine ⟨_, hD, by rw [List.length_map, List.length_take, newUnk_len, sl]; have := ar2 s.w; omega, fun b o q => (upd_ne (ne_of_none q nD)).trans (sG _ _ q), ?_⟩
      rw [upd_same, K2P.take_snoc hn, List.map_append]
      rfl
    · have : (unkT s.w).cps.size = (newUnk s).length := by rw [newUnk_len, sz]
      rw [this, List.take_length] at hD
      exact .inl ⟨D, _, rfl, SqL.of hD, fun q nq => go q _ (sG.trans (same_new nq)) upd_same⟩
theorem cut_from (xs : List V) (j : Int) (k : Nat) (e : j = (k : Int)) : cutV xs (some j) none = xs.drop k := by
  subst e
  unfold cutV
  rw [HT.sIx_nat, HT.sIx_none]
  by_cases h : k ≤ xs.length
  · rw [Nat.min_eq_left h, List.take_of_length_le (by rw [List.length_drop]; exact Nat.le_refl _)]
  · rw [Nat.min_eq_right (by omega), Nat.sub_self, List.take_zero, List.drop_eq_nil_of_le (by omega)]
/-- [d[name] for name in names] -/
theorem lc_gets {σ : L2.St} {H : Hp} {D p d : Addr} {ns : List Str} {vs : List V} {kvs : List (Key × V)} {i j : Nat} {Qd : Hp → Prop} (nD : H D = none) (hp : H p = some (.tup (ns.map V.str))) (hd : H d = some (.dK kvs)) (hv : Paired (fun (x : Str) v => valV kvs (Sum.inr x : Key) = some v) ns vs) (l : ns.length ≤ 1000)
    (h1 : ∀ x, ((wipe σ [j]).set j (some x))[i]? = some (some (.ref d))) (h2 : ∀ x, ((wipe σ [j]).set j (some x))[j]? = some (some x)) (h3 : ∀ x, wipe ((wipe σ [j]).set j (some x)) [j] = wipe σ [j]) (done : ∀ G, Same H G → G D = some (.lst vs) → Qd G) :
    ∃ W : Nat → Nat → Hp → Prop, (∃ m, W 0 m (upd H D (.lst []))) ∧ ∀ k m H, W k m H → ((Itt K p).stop k H ∧ Qd H) ∨ ((Itt K p).go k H ∧ ∃ Nx : Hp → Prop, (∀ H', Nx H' → ∃ m', m' < m ∧ W (k + 1) m' H') ∧ ∀ v H', (Itt K p).yld k H v H' → gName j v (wipe σ [j]) H' fun σ2 H2 => wipe σ2 [j] = wipe σ [j] ∧ tYes σ2 H2 fun b H3 =>
      if b = true then (tDGet (tVar i) (tVar j)) σ2 H3 fun y H4 => ∃ acc, H4 D = some (.lst acc) ∧ acc.length < sizeLine ∧ Nx (upd H4 D (.lst (acc ++ [y]))) else Nx H3) := by
  have ll : vs.length = ns.length := (Paired.length hv).symm
  refine lc_it (walk_tup (K := K) (a := p) (xs := ns.map V.str)) (fun k G => Same H G ∧ G D = some (.lst (vs.take k))) ⟨same_new nD, upd_same⟩ (fun k G _ h => SqT.of (h.1 _ _ hp)) (fun k y G G' hi ⟨sG, hD⟩ ⟨e, hy⟩ => ?_) (fun G ⟨sG, hD⟩ => ?_)
  · subst e
    have hy : (ns.map V.str)[k]? = some y := hy
    rw [List.getElem?_map] at hy
    obtain ⟨x, hx, rfl⟩ := Option.map_eq_some_iff.mp hy
    have hk : k < vs.length := by rw [ll]; exact (List.getElem?_eq_some_iff.mp hx).1
    have gv := pair_get hv hx (List.getElem?_eq_getElem hk)
    refine ⟨h3 _, _, h1 _, _, h2 _, d, vs[k], rfl, ?_, _, hD, by rw [List.length_take, sizeLine_eq]; omega, fun b o q => (upd_ne (ne_of_none q nD)).trans (sG _ _ q), ?_⟩
    · have := DGet.k (k := (Sum.inr x : Key)) (sG _ _ hd)
      rw [gv] at this
      exact this
    · rw [upd_same, K2P.take_snoc (List.getElem?_eq_getElem hk)]
  · rw [List.length_map, ← ll, List.take_length] at hD
    exact done G sG hD
theorem tri_vals {H : Hp} {kvs : List (Key × V)} {tri : Str → Option P3} (h : ∀ x p, tri x = some p → ∃ v, valV kvs (Sum.inr x : Key) = some v ∧ TripE H v p) : ∀ ns : List Str, (∀ x ∈ ns, (tri x).isSome = true) →
    ∃ ts, Paired (fun (x : Str) v => valV kvs (Sum.inr x : Key) = some v) ns ts ∧ Paired (TripE H) ts (ns.map fun x => (tri x).getD (placedX (.num 0) (.num 0)))
  | [], _ => ⟨[], .nil, .nil⟩
  | x :: ns, hs => by
    obtain ⟨ts, h1, h2⟩ := tri_vals h ns fun y m => hs y (List.mem_cons_of_mem _ m)
    obtain ⟨p, hp⟩ := Option.isSome_iff_exists.mp (hs x List.mem_cons_self)
    obtain ⟨v, hv, tv⟩ := h x p hp
    refine ⟨v :: ts, .cons hv h1, ?_⟩
    rw [List.map_cons, hp]
    exact .cons tv h2
theorem varsX_succ (k n : Nat) : varsX k (n + 1) = .var k :: varsX (k + 1) n := by
  unfold varsX
  rw [List.range_succ_eq_map, List.map_cons, List.map_map]
  congr 1
  refine List.map_congr_left fun i _ => ?_
  show Px.var (k + (i + 1)) = Px.var (k + 1 + i)
  congr 1
  omega
theorem unk_vals {H : Hp} {kvs : List (Key × V)} : ∀ (ns : List Str) (k : Nat), (∀ (i : Nat) x, ns[i]? = some x → ∃ v, valV kvs (Sum.inr x : Key) = some v ∧ TabE H v (.var (k + i))) →
    ∃ ts, Paired (fun (x : Str) v => valV kvs (Sum.inr x : Key) = some v) ns ts ∧ Paired (TabE H) ts (varsX k ns.length)
  | [], k, _ => ⟨[], .nil, .nil⟩
  | x :: ns, k, h => by
    obtain ⟨v, hv, tv⟩ := h 0 x rfl
    obtain ⟨ts, h1, h2⟩ := unk_vals ns (k + 1) fun i y e => by
      obtain ⟨v, a, b⟩ := h (i + 1) y e
      exact ⟨v, a, by rw [show k + 1 + i = k + (i + 1) by omega]; exact b⟩
    refine ⟨v :: ts, .cons hv h1, ?_⟩
    rw [List.length_cons, varsX_succ]
    exact .cons tv h2
theorem pair_imp {α β : Type} {F G : α → β → Prop} (h : ∀ a b, F a b → G a b) : ∀ {l : List α} {m : List β}, Paired F l m → Paired G l m
  | _, _, .nil => .nil
  | _, _, .cons a r => .cons (h _ _ a) (pair_imp h r)
theorem ok_made {f : Addr} {fd : FuncData} (F : Fun K "made" "made" sMade f fd) (T : KindTxt K mg) (S : StepTxt K w mg dF dU dL dM) (MT : MakersT P w K mg base C dM mk) (UE : CallT P w K mg base CX0 1 "elders" ["step"] spElders fE dE) (UN : CallT P w K mg base CX0 1 "new_unknowns" ["step"] spNewUnk fN dN) : FnOk P w K mg base CX0 9 f fd ["ring", "step", "triples", "unknowns"] (spMade C) := by
  refine F.ok scMade (fun vs H Q E h => ?_) (fun cdv A outer s H vs Q E hr h => ?_)
  · obtain ⟨z, a, t, d, s, tri, us, rfl, _⟩ := h
    rfl
  · obtain ⟨z, a, t, d, s, tri, us, rfl, shp, ln, hring, ha, htri, hel, hunk, fi, go⟩ := h
    refine ⟨_, (pss_cons (ps_set (i := 4) scMade.nd rfl (Or.inl rfl) (pe_call UE.ok (hr.mono (by decide)) rfl UE.g UE.k UE.b .nil pass0 (pa_cons (pv 1) pa_nil)))
      (pss_cons (ps_setLc (i := 5) (own := [("name", 7)]) (g := (gName 7)) (tt := tYes) (te := (tDGet (tVar 2) (tVar 7))) rfl scMade.nd rfl rfl (sw_true rfl rfl rfl (by decide +kernel)) (pi_tup (pv 4)) (blkOk_by (own := [("name", 7)]) (N := ["ring", "step", "triples", "unknowns", "named", "found", "maker", "name"]) (sc := defScope sMade) (by decide +kernel)) (fun _ _ _ _ _ => (pg_name (i := 7) scMade.nd rfl (Or.inl rfl))) (fun _ _ _ _ _ => pts_nil) (fun _ _ _ _ _ => (pe_dget (hu1 hr) (pv 2) (pv 7) (fun _ _ => rfl))))
      (pss_cons (ps_set (i := 5) scMade.nd rfl (Or.inl rfl) (pe_op op_cat (pv 5) (pe_lc (own := [("name", 7)]) (g := (gName 7)) (tt := tYes) (te := (tDGet (tVar 3) (tVar 7))) rfl scMade.nd (pi_tup (pe_call UN.ok (hr.mono (by decide)) rfl UN.g UN.k UN.b .nil pass0 (pa_cons (pv 1) pa_nil))) (blkOk_by (own := [("name", 7)]) (N := ["ring", "step", "triples", "unknowns", "named", "found", "maker", "name"]) (sc := defScope sMade) (by decide +kernel)) (fun _ _ _ _ _ => (pg_name (i := 7) scMade.nd rfl (Or.inl rfl))) (fun _ _ _ _ _ => pts_nil) (fun _ _ _ _ _ => (pe_dget (hu1 hr) (pv 3) (pv 7) (fun _ _ => rfl))))))
      (pss_cons (ps_set (i := 5) scMade.nd rfl (Or.inl rfl) (pe_op op_cat (pv 5) (pe_callTy call_list_of (by rfl) T.list (by decide +kernel) (pa_cons (pe_slice sl_tupA (pv 1) (po_some (pe_op op_add pe_int (pe_callB call_len_seq (by rfl) T.len PySem.boot_len (pa_cons (pv 4) pa_nil)))) po_none) pa_nil))))
      (pss_cons (ps_set (i := 6) scMade.nd rfl (Or.inl rfl) (pe_ix ix_kdict (pe_glob (v := .ref dM) (by rfl) S.gM rfl) (pe_ix ix_seq (pv 1) pe_int (fun _ _ => rfl)) (fun _ _ => rfl)))
      (pss_one (ps_ret (pe_callAS (i := 6) (k := 8) (hr.mono (by decide)) rfl (Or.inl rfl) (pa_cons (pv 0) (StX.pa_star (pv 5) pa_nil)))))))))), ?_⟩
    refine ⟨_, rfl, _, s, rfl, shp, ⟨a, rfl, .inr ha⟩, fun p G sG hp => ?_⟩
    obtain ⟨kvs, hd, htr⟩ := htri.up sG
    obtain ⟨ts, v1, tp⟩ := tri_vals htr s.el hel
    have e4 := ar4 s.w
    have se := shp.el
    refine ⟨_, rfl, p, rfl, ⟨_, SqT.of hp⟩, fun D1 nD1 => lc_gets (i := 2) (j := 7) nD1 hp hd v1 (by omega) (fun _ => rfl) (fun _ => rfl) (fun _ => rfl) fun G1 s1 hD1 => ?_⟩
    have h1 := sG.trans s1
    refine ⟨_, rfl, _, rfl, _, s, rfl, ln, ⟨a, rfl, .inr (h1 _ _ ha)⟩, fun p2 G2 s2 hp2 => ?_⟩
    have h2 := h1.trans s2
    obtain ⟨kvs2, hd2, hu2⟩ := hunk.up h2
    obtain ⟨us2, v2, tu⟩ := unk_vals (H := G2) (newUnk s) us.length fun i x e => by
      have : (us ++ newUnk s)[us.length + i]? = some x := by
        rw [List.getElem?_append_right (by omega), show us.length + i - us.length = i by omega]
        exact e
      exact hu2 _ x this
    have nl := newUnk_len s
    have e2 := ar2 s.w
    refine ⟨p2, rfl, ⟨_, SqT.of hp2⟩, fun D2 nD2 => lc_gets (i := 3) (j := 7) nD2 hp2 hd2 v2 (by omega) (fun _ => rfl) (fun _ => rfl) (fun _ => rfl) fun G3 s3 hD3 => ?_⟩
    have lt : ts.length = s.el.length := (Paired.length v1).symm
    have lu : us2.length = (newUnk s).length := (Paired.length v2).symm
    refine ⟨D1, D2, ts, us2, rfl, rfl, s3 _ _ (s2 _ _ hD1), hD3, by rw [lt, lu, sizeLine_eq]; omega, fun D4 nD4 => ?_⟩
    have h4 := (h2.trans s3).trans (same_new (o := .lst (ts ++ us2)) nD4)
    have hD4 : upd G3 D4 (.lst (ts ++ us2)) D4 = some (.lst (ts ++ us2)) := upd_same
    have s14 := (s2.trans s3).trans (same_new (o := .lst (ts ++ us2)) nD4)
    have s24 := s3.trans (same_new (o := .lst (ts ++ us2)) nD4)
    generalize upd G3 D4 (.lst (ts ++ us2)) = G4 at h4 hD4 s14 s24
    have lv : s.vals.length = 2 + (s.el.length + s.nu.length) := by
      unfold Stp.vals Stp.mem
      rw [List.length_cons, List.length_cons, List.length_append, List.length_map, List.length_map]
      omega
    have dv : s.vals.drop (2 + s.el.length) = s.nu.map V.int := by
      show (V.str (wdS s.w) :: V.str s.nm :: (s.el.map V.str ++ s.nu.map V.int)).drop (2 + s.el.length) = _
      rw [show 2 + s.el.length = (s.el.length + 1) + 1 by omega, List.drop_succ_cons, List.drop_succ_cons, List.drop_append_of_le_length (by rw [List.length_map]; exact Nat.le_refl _), List.drop_eq_nil_of_le (by rw [List.length_map]; exact Nat.le_refl _), List.nil_append]
    refine ⟨_, rfl, _, rfl, _, rfl, p, _, rfl, .inr (SqT.of (s14 _ _ (s1 _ _ hp))), _, _, rfl, rfl, _, rfl, a, s.vals, rfl, SqT.of (h4 _ _ ha), fun wh => absurd wh.1 ?_, fun _ p5 n5 => ?_⟩
    · rw [List.length_map, show (2 : Int) + (s.el.length : Int) = ((2 + s.el.length : Nat) : Int) by omega, HT.sIx_nat, lv]
      omega
    rw [cut_from s.vals _ (2 + s.el.length) (by rw [List.length_map]; omega), dv]
    have s5 := same_new (o := .tup (s.nu.map V.int)) n5
    have hp5 : upd G4 p5 (.tup (s.nu.map V.int)) p5 = some (.tup (s.nu.map V.int)) := upd_same
    generalize upd G4 p5 (.tup (s.nu.map V.int)) = G5 at s5 hp5
    refine ⟨p5, _, rfl, .inr (SqT.of hp5), fun l6 n6 => ?_⟩
    have s6 := same_new (o := .lst (s.nu.map V.int)) n6
    have hl6 : upd G5 l6 (.lst (s.nu.map V.int)) l6 = some (.lst (s.nu.map V.int)) := upd_same
    generalize upd G5 l6 (.lst (s.nu.map V.int)) = G6 at s6 hl6
    have an := arN2 s.w
    have sn := shp.nu
    refine ⟨D4, l6, _, _, rfl, rfl, s6 _ _ (s5 _ _ hD4), hl6, by rw [List.length_append, List.length_map, lt, lu, sizeLine_eq]; omega, fun D7 n7 => ?_⟩
    have s7 := same_new (o := .lst ((ts ++ us2) ++ s.nu.map V.int)) n7
    have hD7 : upd G6 D7 (.lst ((ts ++ us2) ++ s.nu.map V.int)) D7 = some (.lst ((ts ++ us2) ++ s.nu.map V.int)) := upd_same
    generalize upd G6 D7 (.lst ((ts ++ us2) ++ s.nu.map V.int)) = G7 at s7 hD7
    have s47 := (s5.trans s6).trans s7
    have h7 := h4.trans s47
    refine ⟨_, rfl, SeqV.ix (k := 0) ⟨a, rfl, .inr (h7 _ _ ha)⟩ rfl ⟨dM, wdS s.w, .ref (mk s.w), rfl, rfl, MT.tab.dct (by rw [fnd_map]; show (wdOf (wdS s.w)).map _ = _; rw [wdOf_wdS]; rfl), ?_⟩⟩
    refine ⟨mk s.w, _, rfl, MT.held s.w, _, rfl, _, rfl, D7, _, rfl, .inr (SqL.of hD7), ?_⟩
    refine ⟨z, ts, us2, _, _, s.nu, ?_, hring.up h7, by rw [lt, se], pair_imp (fun _ _ h => TripE.up h (((s1.trans s14).trans s47))) tp, by rw [lu, nl], pair_imp (fun _ _ h => TabE.up h (s24.trans s47)) tu, sn, ?_, fun x G8 s8 tx => ?_⟩
    · rw [List.append_nil, List.append_assoc]
    · rw [nl]; exact fi
    · rw [nl] at tx
      exact go x G8 (h7.trans s8) tx
end
end CN

set_option Elab.async false
set_option linter.all false
set_option maxRecDepth 100000
set_option maxHeartbeats 4000000
set_option autoImplicit false
/-! f(k = v, ..) without positional values, where what is raised is wished for at the caller's slots. -/
namespace L2
open PySem PySem.Spec PyProof.Rows
def tKw (m : Nat) (sp : Sp) (gV : List V → List V → List V) (E : St → XK) (tk : TA) : TE := fun σ H Q => tk σ H fun zs G => zs.length = m ∧ sp (gV [] zs) G Q (E σ)
section
variable {X : Cx} {CX : CXT} {k n : Nat} {f : Addr} {fd : FuncData} {ps ks : List Str} {sp : Sp} {x : Str} {p pos : Pos} {kws : List Keyword} {tk : TA} {g : List Value → List Value → List Value} {gV : List V → List V → List V}
theorem run_kw {pins : List (Addr × Obj)} {σ : St} {H : Hp} {s : Shared} {Q : VK} {E : XK} {us ws : List Value} {vs zs : List V} (F : FnOk X.prog X.w X.K X.mg X.base CX k f fd ps sp) (hr : Room k X.A) (hb : KBn X.K fd ps n ks g gV)
    (hx : ∀ e s', CX X.stack H s E e s' → X.xe e s') (I : Inv X pins σ H s) (r : Vals vs us) (rz : Vals zs ws) (l1 : vs.length = n) (l2 : zs.length = ks.length) (h : sp (gV vs zs) H Q E) : wpAny (model X.prog X.w) X.A (call (.ref f) us (ks.zip ws)) (EP X pins σ Q) X.xe s := by
  have r2 := hb.rel r rz
  refine wpAny_call (codeAny_mono (F.run X.A X.stack s H ⟨us, ks.zip ws⟩ (g us ws) (gV vs zs) Q E hr I.env0 (hb.to s us ws I.kIn (r.length.symm.trans l1) (rz.length.symm.trans l2)) r2 h) fun r s' hq => ?_)
  cases r with
  | error e => exact hx e s' hq
  | ok fl =>
    cases fl with
    | ret u => exact I.after hq
    | next => exact False.elim hq
    | brk => exact False.elim hq
    | cont => exact False.elim hq
theorem pe_kw {E : St → XK} (F : FnOk X.prog X.w X.K X.mg X.base CX k f fd ps sp) (hr : Room k X.A) (hg : Gl X x) (hm : X.mg x = some (.ref f)) (kp : PySem.W.keepIn X.K (.ref f) = true) (hb : KBn X.K fd ps 0 ks g gV)
    (hx : ∀ (pins : List (Addr × Obj)) (σ : St) (H : Hp) (s : Shared) (e : Value) (s' : Shared), Inv X pins σ H s → CX X.stack H s (E σ) e s' → X.xe e s') (hkw : PK X kws tk)
    (hall : (backToKw pos (keywordEach kws X.env)).all (·.1.isSome) = true := by rfl) (hks : (backToKw pos (keywordEach kws X.env)).filterMap (·.1) = ks := by rfl) (hdb : (x == ("__debug__" : Str)) = false := by decide)
    (hpl : ((backTo pos (starEach [] X.env)).any (·.1) || (backToKw pos (keywordEach kws X.env)).any (·.1.isNone)) = false := by rfl) : PE X (.Call (.Name x p) [] kws pos) (tKw ks.length sp gV E tk) := ⟨fun pn s τ H Q I h => by
  refine wpAny_Call_Name_kw (ld_glob I hg hm ?_ hdb)
  refine PySem.W.callWith_KW0 (h₀ := X.base) I.ok.mod.kin kp hall (thn (hkw.run pos pn s τ H _ I h) fun ws s2 ⟨zs, G, I2, rz, l2, q2⟩ => ⟨I2.kIn, ?_⟩) hpl
  rw [hks]
  exact run_kw F hr hb (fun e s' c => hx pn τ G s2 e s' I2 c) I2 .nil rz rfl l2 q2⟩
end
theorem kw_one {K : PySem.W.Frag} {x qual : Str} {st : Stmt} {f : Addr} {fd : FuncData} {p : Str} (F : Fun K x qual st f fd)
    (h : ∀ (kV doc pm : Value) (an : Option Addr) (cdv ct a : Value), bindArgs (PySem.W.fnOf x qual (defArgs st) (defBody st) (defScope st) .none kV doc pm an cdv ct) ⟨[], [(p, a)]⟩ = pure [(p, a)]) : KBn K fd [p] 0 [p] (fun _ ws => ws) (fun _ zs => zs) := by
  obtain ⟨oc, od, kV, doc, pm, an, cdv, ct, osl, rfl, lk, hcd⟩ := F.ex
  refine ⟨fun s us ws X l1 l2 => ?_, fun _ r => r⟩
  match us, ws, l1, l2 with
  | [], [a], _, _ => exact .of_eq (h kV doc pm an cdv ct a)
theorem suite_hot {X : Cx} {a : Addr} {oe : Obj} {cls : Value} {d : Option Addr} {pn : List (Addr × Obj)} (hz : L2N.Zn cls d oe) (hf : ∃ vs, oe.data = .fields vs) : L2H.HotC (X.suite a ((a, oe) :: pn)) := by
  obtain ⟨vs, e⟩ := hf
  exact ⟨(a, oe), ⟨rfl, vs, e, hz.2.2 vs e⟩, List.mem_cons_self⟩
end L2

set_option Elab.async false
set_option linter.all false
set_option maxRecDepth 100000
set_option maxHeartbeats 4000000
set_option autoImplicit false
set_option pp.maxSteps 300
/-! A method's call where what is raised is wished for at the caller's slots; with keywords. Speaks of no program. -/
namespace L2
open PySem PySem.Spec PyProof.Rows
def tMethE (C : Addr) (m : Str) (sp : Sp) (E : St → XK) (ta : TE) (t : TA) : TE := fun σ H Q => ta σ H fun x H1 => ∃ a dx fs, x = .ref a ∧ H1 a = some (.ins C dx fs) ∧ fs.lookup m = none ∧ t σ H1 fun vs H2 => sp (x :: vs) H2 Q (E σ)
def tMethKw (C : Addr) (m : Str) (n : Nat) (sp : Sp) (gV : List V → List V → List V) (E : St → XK) (ta : TE) (tk : TA) : TE := fun σ H Q => ta σ H fun x H1 => ∃ a dx fs, x = .ref a ∧ H1 a = some (.ins C dx fs) ∧ fs.lookup m = none ∧ tk σ H1 fun zs H2 => zs.length = n ∧ sp (gV [x] zs) H2 Q (E σ)
section
variable {X : Cx} {CX : CXT} {k : Nat} {f C : Addr} {fd : FuncData} {ps ks : List Str} {sp : Sp} {E : St → XK} {x m : Str} {p pos apos : Pos} {e o : Expr} {es : List Expr} {ta : TE} {t tk : TA} {kws : List Keyword} {g : List Value → List Value → List Value} {gV : List V → List V → List V}
theorem pe_methE {pl : Sem Bool} (he : PE X o ta) (c : Cls X.K C) (hm : Meth X.K C m f) (F : FnOk X.prog X.w X.K X.mg X.base CX k f fd ps sp) (hr : Room k X.A) (hb : Binds X.K fd ps []) (hx : ∀ σ, PassesAt CX X σ (E σ)) (ha : PA X (e :: es) t)
    (hst : starEach (e :: es) X.env = (false, eval e X.env) :: starEach es X.env := by rfl) (hpl : (backTo pos (starEach es X.env)).any (·.1) = false := by rfl)
    (ht : eval (.Call (.Attribute o m apos) (e :: es) [] pos) X.env = (do
      let ov ← eval o X.env
      standAt apos.atName
      let (f, first) ← holding [ov] (getMethod ov m pl)
      callWith pos f first (backTo pos (starEach (e :: es) X.env)) (backToKw pos (keywordEach [] X.env))) := by rfl) :
    PE X (.Call (.Attribute o m apos) (e :: es) [] pos) (tMethE C m sp E ta t) := by
  refine ⟨fun pins s σ H Q I h => ?_⟩
  refine PySem.W.methodCall_KW (pl := pl) (thn (he.run pins s σ H _ I h) fun u s1 ⟨x, H1, I1, rx, a, dx, fs, ex, ea, l, q⟩ => ?_) ht
  subst ex
  obtain rfl : u = Value.ref a := rx
  refine getmeth_ok I1 ea c hm l ?_
  refine PySem.W.callWith_K (first := [.ref a]) (h₀ := X.base) I.ok.mod.kin hm.kp (thn (ha.run pos pins s1 σ H1 _ I1 q) fun us s2 ⟨vs, H2, I2, r, q2⟩ => ⟨I2.kIn, ?_⟩) hst hpl
  exact run_fnS (us := .ref a :: us) (vs := .ref a :: vs) F hr hb (hx σ) I2 (.cons rfl r) q2
theorem pe_methKw {pl : Sem Bool} (he : PE X o ta) (c : Cls X.K C) (hm : Meth X.K C m f) (F : FnOk X.prog X.w X.K X.mg X.base CX k f fd ps sp) (hr : Room k X.A) (hb : KBn X.K fd ps 1 ks g gV) (hx : ∀ σ, PassesAt CX X σ (E σ)) (hkw : PK X kws tk)
    (hall : (backToKw pos (keywordEach kws X.env)).all (·.1.isSome) = true := by rfl) (hks : (backToKw pos (keywordEach kws X.env)).filterMap (·.1) = ks := by rfl)
    (hpl : ((backTo pos (starEach [] X.env)).any (·.1) || (backToKw pos (keywordEach kws X.env)).any (·.1.isNone)) = false := by rfl)
    (ht : eval (.Call (.Attribute o m apos) [] kws pos) X.env = (do
      let ov ← eval o X.env
      standAt apos.atName
      let (f, first) ← holding [ov] (getMethod ov m pl)
      callWith pos f first (backTo pos (starEach [] X.env)) (backToKw pos (keywordEach kws X.env))) := by rfl) :
    PE X (.Call (.Attribute o m apos) [] kws pos) (tMethKw C m ks.length sp gV E ta tk) := by
  refine ⟨fun pins s σ H Q I h => ?_⟩
  refine PySem.W.methodCall_KW (pl := pl) (thn (he.run pins s σ H _ I h) fun u s1 ⟨x, H1, I1, rx, a, dx, fs, ex, ea, l, q⟩ => ?_) ht
  subst ex
  obtain rfl : u = Value.ref a := rx
  refine getmeth_ok I1 ea c hm l ?_
  refine PySem.W.callWith_KW0 (first := [.ref a]) (h₀ := X.base) I.ok.mod.kin hm.kp hall (thn (hkw.run pos pins s1 σ H1 _ I1 q) fun ws s2 ⟨zs, H2, I2, rz, l2, q2⟩ => ⟨I2.kIn, ?_⟩) hpl
  rw [hks]
  exact run_kw (us := [.ref a]) (vs := [.ref a]) F hr hb (fun e s' c => hx σ pins H2 s2 e s' I2 c) I2 (.cons rfl .nil) rz rfl l2 q2
end
/-! ### C() of a class without an __init__ of its own -/
structure Mk0 (K : PySem.W.Frag) (C : Addr) : Prop where
  makes : PySem.W.makesIn K C = true
  init : PySem.W.findIn K (.ref C) "__init__" = some (some (.builtin "object.__init__"))
  kp : PySem.W.keepIn K (.ref C) = true
def tMk0 (C : Addr) : TE := fun σ H Q => ∀ x dx, H x = none → H dx = none → dx ≠ x → Q (.ref x) (upd (upd H dx (.own x)) x (.ins C dx []))
section
variable {X : Cx} {C : Addr} {x : Str} {p pos : Pos}
theorem make_plain {K : PySem.W.Frag} {prog : Program} {w : World} {A : Around} {s : Shared} {R : Result → Shared → Prop} (X : K.In s.heap) (hm : PySem.W.makesIn K C = true) (hi : PySem.W.findIn K (.ref C) "__init__" = some (some (.builtin "object.__init__")))
    (h : R (.ok (.ret (.ref (s.heap.objs.size + 1)))) { s with heap := (s.heap.push PySem.W.emptyDict).push (PySem.W.instObj C s.heap.objs.size) }) : codeAny (model prog w) A (.call (.ref C) ⟨[], []⟩) R s := by
  obtain ⟨hh, g, d, t, os⟩ := s
  have Y := PySem.W.makes_of (M := model prog w) X hm
  refine PySem.W.make_core Y (PySem.W.looks_findIn X hi) (fun self => PySem.W.Looks.of_pure (PySem.W.oi_bind self)) (.inr ⟨rfl, rfl⟩) ?_
  have hx : ((hh.push PySem.W.emptyDict).push (PySem.W.instObj C hh.objs.size)).get? (hh.objs.size + 1) = some (PySem.W.instObj C hh.objs.size) := by
    have := Heap.get?_push_size (hh.push PySem.W.emptyDict) (o := PySem.W.instObj C hh.objs.size) rfl
    rwa [Heap.size_push] at this
  have t1 : PySem.W.Looks (model prog w) ((hh.push PySem.W.emptyDict).push (PySem.W.instObj C hh.objs.size)) (typeOf (.ref (hh.objs.size + 1))) (.ref C) := (PySem.W.Looks.ld hx).andThen .now
  have t2 : PySem.W.Looks (model prog w) ((hh.push PySem.W.emptyDict).push (PySem.W.instObj C hh.objs.size)) (isInstance (.ref (hh.objs.size + 1)) (.type "object")) true := t1.andThen (Y.top.keeps fun b o e => Heap.get?_push_of_some _ (Heap.get?_push_of_some _ e))
  refine codeAny_call_builtin PySem.W.oi_plain PySem.W.entry_oi (@PySem.W.check_slot (model prog w) _ _ _ "object.__init__" "object" "__init__" (.ref (hh.objs.size + 1)) [] [] _ PySem.W.oi_kind PySem.W.oi_split t2 (PySem.W.oi_args (.ref (hh.objs.size + 1))) ?_)
  rw [PySem.W.oi_run]
  exact wpAny_pure (And.intro rfl h)
theorem pe_makeP (M : Mk0 X.K C) (hg : Gl X x) (hm : X.mg x = some (.ref C)) (hdb : (x == ("__debug__" : Str)) = false := by decide) : PE X (.Call (.Name x p) [] [] pos) (tMk0 C) := by
  refine ⟨fun pins s σ H Q I h => ?_⟩
  refine wpAny_Call_Name_kw (ld_glob I hg hm ?_ hdb)
  refine PySem.W.callWith_K0 I.kIn M.kp (wpAny_call (make_plain I.kIn M.makes M.init ?_))
  exact ⟨.ref (s.heap.objs.size + 1), _, Inv.made (C := C) I, rfl, h _ _ (I.hok.fresh (Nat.le_succ _)) (I.hok.fresh (Nat.le_refl _)) (Nat.ne_of_lt (Nat.lt_succ_self _))⟩
end
end L2

set_option Elab.async false
set_option linter.all false
set_option maxRecDepth 100000
set_option maxHeartbeats 4000000
set_option autoImplicit false
set_option pp.maxSteps 300
/-! Construction._checked: a step, looked at. -/
namespace CN
open PySem L2 K1D K2P
open K4 (isNm)
/-- a step that may be put behind these points -/
structure Right (names : List Str) (s : Stp) : Prop where
  shp : s.Shp
  nm : isNm s.nm = true
  new : s.nm ∉ names
  el : ∀ x ∈ s.el, x ∈ names
  nu : ∀ (i : Nat) (k : Int), s.nu[i]? = some k → leastN (if i = 0 then 110 else 100) ≤ k ∧ k ≤ 100
theorem nm_len {x : Str} (h : isNm x = true) : x.length ≤ 4 := by
  unfold isNm at h
  rw [Bool.and_eq_true, Bool.and_eq_true] at h
  have := of_decide_eq_true h.1.2
  rw [lenT] at this
  exact this
theorem wrong_pts (names : List Str) (r : List Nat) (q : List V) : ∀ el : List Str, (∀ x ∈ el, x ∈ names) → wrongAt names (List.replicate el.length 112 ++ r) (el.map V.str ++ q) = (wrongAt names r q).map (· + el.length)
  | [], _ => by
    show wrongAt names r q = _
    cases wrongAt names r q <;> rfl
  | x :: el, h => by
    show (if memV names 112 (V.str x) = true then (wrongAt names (List.replicate el.length 112 ++ r) (el.map V.str ++ q)).map (· + 1) else some 0) = _
    have m : memV names 112 (V.str x) = true := by
      show decide (x ∈ names) = true
      exact decide_eq_true (h x List.mem_cons_self)
    rw [if_pos m, wrong_pts names r q el fun y hy => h y (List.mem_cons_of_mem _ hy), Option.map_map]
    congr 1
theorem Right.none {names : List Str} {s : Stp} (h : Right names s) : wrongAt names (formT s.w).cps.toList s.mem = none := by
  rw [form_cps, ← h.shp.el]
  unfold Stp.mem
  rw [wrong_pts names _ _ s.el h.el]
  have hn := h.shp.nu
  by_cases a : arN s.w = 2
  · rw [if_pos a]
    rw [a] at hn
    match hs : s.nu, hn with
    | [n, d], _ =>
      have h0 := h.nu 0 n (by rw [hs]; rfl)
      have h1 := h.nu 1 d (by rw [hs]; rfl)
      have m0 : memV names 110 (V.int n) = true := by
        show (decide (leastN 110 ≤ n) && decide (n ≤ 100)) = true
        rw [decide_eq_true (show leastN 110 ≤ n from h0.1), decide_eq_true h0.2]; rfl
      have m1 : memV names 100 (V.int d) = true := by
        show (decide (leastN 100 ≤ d) && decide (d ≤ 100)) = true
        rw [decide_eq_true (show leastN 100 ≤ d from h1.1), decide_eq_true h1.2]; rfl
      show ((if memV names 110 (V.int n) = true then (if memV names 100 (V.int d) = true then Option.map (· + 1) Option.none else some 0).map (· + 1) else some 0).map (· + s.el.length)) = Option.none
      rw [if_pos m0, if_pos m1]
      rfl
  · rw [if_neg a]
    rfl
theorem Stp.Shp.formed {s : Stp} (h : s.Shp) : formedL s.vals = true := by
  show formedL (V.str (wdS s.w) :: V.str s.nm :: s.mem) = true
  unfold formedL
  dsimp only
  rw [wdOf_wdS]
  refine decide_eq_true ?_
  unfold Stp.mem
  rw [List.length_cons, List.length_append, List.length_map, List.length_map, h.el, h.nu]
  omega
def inN (names : List Str) : V → Bool | .str x => decide (x ∈ names) | _ => false
/-- the first wrong member of what has the form of a sequence -/
def chkAt (names : List Str) (us : List V) : Option Nat :=
  if formedL us = true then (match us with
    | .str z :: u :: ms => if (nmV u && !inN names u) = true then (match wdOf z with
      | some wd => (wrongAt names (formT wd).cps.toList ms).map (2 + ·)
      | none => some 0) else some 1
    | _ => some 0) else some 0
theorem Right.chk {names : List Str} {s : Stp} (h : Right names s) : chkAt names s.vals = Option.none := by
  unfold chkAt
  rw [if_pos h.shp.formed]
  show (if (isNm s.nm && !decide (s.nm ∈ names)) = true then (match wdOf (wdS s.w) with
      | some wd => (wrongAt names (formT wd).cps.toList s.mem).map (2 + ·)
      | Option.none => some 0) else some 1) = Option.none
  rw [h.nm, decide_eq_false h.new, if_pos (by rfl), wdOf_wdS]
  dsimp only
  rw [h.none]
  rfl
theorem formed_inv {us : List V} (h : formedL us = true) : ∃ wd u ms, us = .str (wdS wd) :: u :: ms ∧ ms.length = arP wd + arN wd := by
  unfold formedL at h
  split at h
  · rename_i x r
    split at h
    · rename_i d hd
      have l := of_decide_eq_true h
      match r, l with
      | u :: ms, l => exact ⟨d, u, ms, by rw [wdOf_eq hd], by rw [List.length_cons] at l; omega⟩
      | [], l => simp at l; omega
    · cases h
  · cases h
abbrev sChk : Stmt := inClass (K2P.top 60) 2
def spChk (C CS : Addr) : Sp := fun vs H Q E => ∃ (p dx t : Addr) (fs : List (Str × V)) (x : V) (names : List Str), vs = [.ref p, x] ∧ H p = some (.ins C dx fs) ∧ fs.lookup ("_triples" : Str) = some (.ref t) ∧ NamesD H t names ∧
  ((NoSeq x ∧ Raises CS "at" (.int 0) H E) ∨ ∃ us, SeqV H x us ∧ Pls H us ∧ us.length < 1000000 ∧ (∀ k, chkAt names us = some k → Raises CS "at" (.int ((k : Nat) : Int)) H E) ∧
    (chkAt names us = none → ∀ (a : Addr) (G : Hp), Same H G → G a = some (.tup us) → Q (.ref a) G))
/-- what the written part says of the class -/
structure ConTxt (K : PySem.W.Frag) (mg : Str → Option Value) (C : Addr) : Prop where
  cl : Cls K C
  nS : NoAttr K C "_steps"
  nU : NoAttr K C "_unknowns"
  nT : NoAttr K C "_triples"
  gC : mg "Construction" = some (.ref C)
theorem wrong_le : ∀ {names : List Str} {cs : List Nat} {us : List V} {k : Nat}, wrongAt names cs us = some k → k < us.length
  | names, [], us, k, h => by cases us <;> cases h
  | names, c :: cs, [], k, h => by cases h
  | names, c :: cs, u :: us, k, h => by
    unfold wrongAt at h
    split at h
    · obtain ⟨j, hj, rfl⟩ := Option.map_eq_some_iff.mp h
      have := wrong_le hj
      rw [List.length_cons]
      omega
    · cases h
      rw [List.length_cons]
      omega
section
variable {P : Program} {w : World} {K : PySem.W.Frag} {mg : Str → Option Value} {base : Heap} {C CS B fI fF fN fW : Addr} {dI dF dN dW : FuncData}
theorem scChk : FnScope ["self", "step", "at"] ["self", "step"] (defScope sChk) := ⟨rfl, rfl, rfl, by decide +kernel, rfl, by decide +kernel, by decide +kernel⟩
theorem ok_chk {f : Addr} {fd : FuncData} (F : Fun K "_checked" "Construction._checked" sChk f fd) (T : KindTxt K mg) (CT : ConTxt K mg C) (BS : ErrT P w K mg base "BadStep" "at" B CS fI dI)
    (UF : CallT P w K mg base CX0 2 "is_formed" ["step"] spFormed fF dF) (UN : CallT P w K mg base CX0 1 "is_name" ["thing"] spIsName fN dN) (UW : CallT P w K mg base CX0 3 "wrong_behind_name" ["step", "points"] spWrong fW dW) :
    FnOk P w K mg base (L2N.CX P w) 4 f fd ["self", "step"] (spChk C CS) := by
  refine okN F scChk (fun vs H Q E h => ?_) (fun cdv A outer s H vs Q E hr h => ?_)
  · obtain ⟨p, dx, t, fs, x, names, rfl, _⟩ := h
    rfl
  · obtain ⟨p, dx, t, fs, x, names, rfl, hp, lt, nd, h⟩ := h
    refine ⟨_, (pss_cons (ps_if (pt_not (pt_val (pe_call UF.ok (hr.mono (by decide)) rfl UF.g UF.k UF.b .nil pass0 (pa_cons (pv 1) pa_nil)))) (pss_one (L2N.ps_raise rfl (L2N.takes_of rfl rfl rfl rfl) (pmk_err BS.err BS.iC BS.tI BS.ini (hr.mono (by decide)) BS.bd pass0 rfl BS.gC (pa_cons pe_int pa_nil)))) pss_nil)
      (pss_cons (ps_if (PW.pt (pw_or (pt_not (pt_val (pe_call UN.ok (hr.mono (by decide)) rfl UN.g UN.k UN.b .nil pass0 (pa_cons (pe_ix ix_seq (pv 1) pe_int (fun _ _ => rfl)) pa_nil)))) (pw_or1 (pt_cmp (pc_din (hu1 hr) (pe_ix ix_seq (pv 1) pe_int (fun _ _ => rfl)) (pe_fld (pv 0) rfl)))))) (pss_one (L2N.ps_raise rfl (L2N.takes_of rfl rfl rfl rfl) (pmk_err BS.err BS.iC BS.tI BS.ini (hr.mono (by decide)) BS.bd pass0 rfl BS.gC (pa_cons pe_int pa_nil)))) pss_nil)
      (pss_cons (ps_set (i := 2) scChk.nd rfl (Or.inl rfl) (pe_call UW.ok (hr.mono (by decide)) rfl UW.g UW.k UW.b .nil pass0 (pa_cons (pv 1) (pa_cons (pe_fld (pv 0) rfl) pa_nil))))
      (pss_cons (ps_if (pt_cmpR op_notN (pv 2) pe_non (by rfl)) (pss_one (L2N.ps_raise rfl (L2N.takes_of rfl rfl rfl rfl) (pmk_err BS.err BS.iC BS.tI BS.ini (hr.mono (by decide)) BS.bd pass0 rfl BS.gC (pa_cons (pv 2) pa_nil)))) pss_nil)
      (pss_one (ps_ret (pe_tupleOf (by rfl) T.tuple (pv 1)))))))), ?_⟩
    rcases h with ⟨ns, rz⟩ | ⟨us, sq, pl, lu, bad, go⟩
    · refine ⟨_, rfl, x, false, rfl, .inl ⟨ns, rfl⟩, fun G sG => ⟨_, rfl, ifY rfl ?_⟩⟩
      exact err_fin BS (.int 0 (by decide)) (rz.up sG)
    · refine ⟨_, rfl, x, formedL us, rfl, .inr ⟨us, sq, pl, lu, rfl⟩, fun G sG => ⟨_, rfl, ?_⟩⟩
      cases hf : formedL us with
      | false =>
        refine ifY rfl ?_
        have e : chkAt names us = some 0 := by unfold chkAt; rw [hf]; rfl
        exact err_fin BS (.int 0 (by decide)) ((bad 0 e).up sG)
      | true =>
        refine ifN rfl ?_
        obtain ⟨wd, u, ms, rfl, lm⟩ := formed_inv hf
        have ce : chkAt names (.str (wdS wd) :: u :: ms) = if (nmV u && !inN names u) = true then (wrongAt names (formT wd).cps.toList ms).map (2 + ·) else some 1 := by
          unfold chkAt
          rw [if_pos hf]
          show (if (nmV u && !inN names u) = true then (match wdOf (wdS wd) with
            | some wd => (wrongAt names (formT wd).cps.toList ms).map (2 + ·)
            | none => some 0) else some 1) = _
          rw [wdOf_wdS]
        have pu := (pl u (List.mem_cons_of_mem _ List.mem_cons_self)).up sG
        have nd1 := nd.up sG
        refine ⟨_, rfl, (sq.up sG).ix (k := 1) rfl ⟨u, rfl, pu, fun G2 s2 => ⟨_, rfl, ?_⟩⟩⟩
        have h2 := sG.trans s2
        cases hn : nmV u with
        | false =>
          refine ifY rfl ?_
          rw [hn] at ce
          exact err_fin BS (.int 1 (by decide)) ((bad 1 ce).up h2)
        | true =>
          refine ifN rfl ?_
          cases u with
          | str y =>
            obtain ⟨kvs, hd, hk⟩ := nd1
            refine ⟨_, rfl, (sq.up h2).ix (k := 1) rfl ⟨_, rfl, p, C, dx, fs, _, rfl, h2 _ _ hp, CT.cl, CT.nT, lt, t, _, rfl, DGet.k (k := eS y) (s2 _ _ hd), ?_⟩⟩
            rw [show (valV kvs (eS y)).isSome = decide (y ∈ names) from hk y]
            rw [hn] at ce
            refine ⟨_, rfl, ?_⟩
            by_cases hy : y ∈ names
            · refine ifY (decide_eq_true hy) ?_
              have ce1 : chkAt names (.str (wdS wd) :: .str y :: ms) = some 1 := by
                rw [ce]
                show (if (true && !decide (y ∈ names)) = true then _ else some 1) = some 1
                rw [decide_eq_true hy]
                rfl
              exact err_fin BS (.int 1 (by decide)) ((bad 1 ce1).up h2)
            · refine ifN (decide_eq_false hy) ?_
              have ce1 : chkAt names (.str (wdS wd) :: .str y :: ms) = (wrongAt names (formT wd).cps.toList ms).map (2 + ·) := by
                rw [ce]
                show (if (true && !decide (y ∈ names)) = true then _ else some 1) = _
                rw [decide_eq_false hy]
                rfl
              have pm : Pls H ms := fun z m => pl z (List.mem_cons_of_mem _ (List.mem_cons_of_mem _ m))
              refine ⟨_, rfl, _, rfl, p, C, dx, fs, _, rfl, h2 _ _ hp, CT.cl, CT.nT, lt, x, t, names, ms, .non, .str y, wd, rfl, sq.up h2, lm, pm.up h2, nd.up h2, fun G3 s3 => ?_⟩
              have h3 := h2.trans s3
              cases hw : wrongAt names (formT wd).cps.toList ms with
              | none =>
                rw [hw] at ce1
                refine ⟨_, rfl, rfl, _, rfl, ifN (by decide) ?_⟩
                obtain ⟨a, rfl, hsq⟩ := sq.up h3
                refine ⟨_, rfl, ?_⟩
                rcases hsq with hl | ht
                · exact .inl ⟨a, _, rfl, SqL.of hl, fun q nq => go ce1 q _ (h3.trans (same_new nq)) upd_same⟩
                · exact .inr ⟨a, _, rfl, SqT.of ht, go ce1 a _ h3 ht⟩
              | some k =>
                rw [hw] at ce1
                have lk := wrong_le hw
                have a4 := ar4 wd
                have n2 := arN2 wd
                refine ⟨_, rfl, rfl, _, rfl, ifY (by rw [decide_eq_false (fun z => by cases z)]; rfl) ⟨_, rfl, ?_⟩⟩
                exact err_fin BS (.int (2 + k) (by omega)) ((bad (2 + k) ce1).up h3)
          | _ => cases hn
end
end CN

set_option Elab.async false
set_option linter.all false
set_option maxRecDepth 100000
set_option maxHeartbeats 4000000
set_option autoImplicit false
set_option pp.maxSteps 300
/-! A construction as it stands in the heap. -/
namespace CN
open PySem L2 K1D K2P
open K4 (isNm)
structure Own where
  p : Addr
  s : Addr
  u : Addr
  t : Addr
structure Cst where
  steps : List Stp
  unk : List Str
  tri : List (Str × P3)
def Cst.names (c : Cst) : List Str := c.tri.map (·.1)
def Cst.pt (c : Cst) (x : Str) : Option P3 := (c.tri.find? fun e => decide (e.1 = x)).map (·.2)
def Cst.mk3 (c : Cst) (s : Stp) : P3 := s.mk3 c.pt c.unk.length
def Cst.add (c : Cst) (s : Stp) : Cst := ⟨c.steps ++ [s], c.unk ++ newUnk s, c.tri ++ [(s.nm, c.mk3 s)]⟩
def Cst.new : Cst := ⟨[], [], []⟩
def StepAt (H : Hp) (v : V) (s : Stp) : Prop := ∃ a, v = .ref a ∧ H a = some (.tup s.vals)
def cF (o : Own) : List (Str × V) := [("_steps", .ref o.s), ("_unknowns", .ref o.u), ("_triples", .ref o.t)]
def TriAt (H : Hp) (kvs : List (Key × V)) (tri : List (Str × P3)) : Prop := Paired (fun kv e => kv.1 = (Sum.inr e.1 : Key) ∧ TripE H kv.2 e.2) kvs tri
structure ConAt (C : Addr) (H : Hp) (o : Own) (c : Cst) : Prop where
  ob : ∃ dx, H o.p = some (.ins C dx (cF o))
  st : ∃ vs, H o.s = some (.lst vs) ∧ Paired (StepAt H) vs c.steps
  un : H o.u = some (.lst (c.unk.map V.str))
  tr : ∃ kvs, H o.t = some (.dK kvs) ∧ TriAt H kvs c.tri
  su : o.s ≠ o.u
/-- what a row of steps gives -/
structure Cok (c : Cst) : Prop where
  nd : c.names.Nodup
  nm : c.names = c.steps.map (·.nm)
  un : c.unk = c.steps.flatMap newUnk
  st : ∀ s ∈ c.steps, s.Shp ∧ isNm s.nm = true
  len : c.steps.length ≤ 12
  ul : c.unk.length ≤ 8
theorem f_steps {o : Own} : (cF o).lookup ("_steps" : Str) = some (.ref o.s) := by
  unfold cF
  simp [List.lookup]
theorem f_unk {o : Own} : (cF o).lookup ("_unknowns" : Str) = some (.ref o.u) := by
  have h : (("_unknowns" : Str) == "_steps") = false := by decide +kernel
  unfold cF
  simp [List.lookup, h]
theorem f_tri {o : Own} : (cF o).lookup ("_triples" : Str) = some (.ref o.t) := by
  have h : (("_triples" : Str) == "_steps") = false := by decide +kernel
  have h2 : (("_triples" : Str) == "_unknowns") = false := by decide +kernel
  unfold cF
  simp [List.lookup, h, h2]
theorem f_none {o : Own} {m : Str} (h : (m == ("_steps" : Str)) = false) (h1 : (m == ("_unknowns" : Str)) = false) (h2 : (m == ("_triples" : Str)) = false) : (cF o).lookup m = none := by
  unfold cF
  simp [List.lookup, h, h1, h2]
theorem put_unk {o : Own} (u : Addr) : putF "_unknowns" (.ref u) (cF o) = cF ⟨o.p, o.s, u, o.t⟩ := by
  have n1 : ¬ (("_steps" : Str) = "_unknowns") := by decide +kernel
  show (if ("_steps" : Str) = "_unknowns" then _ else (("_steps" : Str), V.ref o.s) :: (if ("_unknowns" : Str) = "_unknowns" then (("_unknowns" : Str), V.ref u) :: [(("_triples" : Str), V.ref o.t)] else _)) = _
  rw [if_neg n1, if_pos rfl]
  rfl
theorem StepAt.up {H G : Hp} {v : V} {s : Stp} (h : StepAt H v s) (sG : Same H G) : StepAt G v s := by
  obtain ⟨a, e, h⟩ := h
  exact ⟨a, e, sG _ _ h⟩
theorem ConAt.up {C : Addr} {H G : Hp} {o : Own} {c : Cst} (h : ConAt C H o c) (s : Same H G) : ConAt C G o c := by
  obtain ⟨⟨dx, h0⟩, ⟨vs, h1, h2⟩, h3, ⟨kvs, h4, h5⟩, ne⟩ := h
  exact ⟨⟨dx, s _ _ h0⟩, ⟨vs, s _ _ h1, pair_imp (fun _ _ q => q.up s) h2⟩, s _ _ h3, ⟨kvs, s _ _ h4, pair_imp (fun _ _ q => ⟨q.1, q.2.up s⟩) h5⟩, ne⟩
/-! what is changed -/
def Chg (D : List Addr) (H G : Hp) : Prop := ∀ b x, H b = some x → b ∉ D → G b = some x
/-- at these addresses stand no tuples, no tables -/
def Loose (D : List Addr) (H : Hp) : Prop := ∀ d ∈ D, (∀ xs, H d ≠ some (.tup xs)) ∧ ∀ v e, TabE H v e → v ≠ .ref d
theorem TabE.chg {D : List Addr} {H G : Hp} {v : V} {e : Px} (h : TabE H v e) (c : Chg D H G) (l : Loose D H) : TabE G v e := by
  have h0 := h
  obtain ⟨d, T, e1, ⟨h1, h2⟩, h3⟩ := h
  refine ⟨d, T, e1, ⟨c _ _ h1 fun m => (l d m).2 v e h0 e1, h2⟩, h3⟩
theorem TripE.chg {D : List Addr} {H G : Hp} {v : V} {p : P3} (h : TripE H v p) (c : Chg D H G) (l : Loose D H) : TripE G v p := by
  obtain ⟨t, u0, u1, u2, e, h0, h1, h2, h3⟩ := h
  exact ⟨t, u0, u1, u2, e, c _ _ h0 fun m => (l t m).1 _ h0, h1.chg c l, h2.chg c l, h3.chg c l⟩
theorem StepAt.chg {D : List Addr} {H G : Hp} {v : V} {s : Stp} (h : StepAt H v s) (c : Chg D H G) (l : Loose D H) : StepAt G v s := by
  obtain ⟨a, e, h⟩ := h
  exact ⟨a, e, c _ _ h fun m => (l a m).1 _ h⟩
theorem ConAt.chg {C : Addr} {D : List Addr} {H G : Hp} {o : Own} {c : Cst} (h : ConAt C H o c) (g : Chg D H G) (l : Loose D H) (n : o.p ∉ D ∧ o.s ∉ D ∧ o.u ∉ D ∧ o.t ∉ D) : ConAt C G o c := by
  obtain ⟨⟨dx, h0⟩, ⟨vs, h1, h2⟩, h3, ⟨kvs, h4, h5⟩, ne⟩ := h
  exact ⟨⟨dx, g _ _ h0 n.1⟩, ⟨vs, g _ _ h1 n.2.1, pair_imp (fun _ _ q => q.chg g l) h2⟩, g _ _ h3 n.2.2.1, ⟨kvs, g _ _ h4 n.2.2.2, pair_imp (fun _ _ q => ⟨q.1, q.2.chg g l⟩) h5⟩, ne⟩
/-- a dict that bears a text's key is no table -/
theorem text_loose {H : Hp} {t : Addr} {kvs : List (Key × V)} {x : Str} {v : V} (ht : H t = some (.dK ((Sum.inr x, v) :: kvs))) : ∀ w e, TabE H w e → w ≠ .ref t := fun w e h z => by
  obtain ⟨d, T, e1, ⟨h1, h2⟩, h3⟩ := h
  rw [e1] at z
  cases z
  rw [ht] at h1
  cases T with
  | nil => cases h1
  | cons a T => cases h1
theorem ConAt.loose {C : Addr} {H : Hp} {o : Own} {c : Cst} (h : ConAt C H o c) (ne : c.tri ≠ []) : Loose [o.p, o.s, o.t] H := by
  obtain ⟨⟨dx, h0⟩, ⟨vs, h1, h2⟩, h3, ⟨kvs, h4, h5⟩, _⟩ := h
  intro d m
  rcases List.mem_cons.mp m with rfl | m
  · exact ⟨fun xs q => (by rw [h0] at q; cases q), fun v e ⟨d, T, e1, ⟨h1, _⟩, _⟩ z => (by rw [e1] at z; cases z; rw [h0] at h1; cases h1)⟩
  rcases List.mem_cons.mp m with rfl | m
  · exact ⟨fun xs q => (by rw [h1] at q; cases q), fun v e ⟨d, T, e1, ⟨h2, _⟩, _⟩ z => (by rw [e1] at z; cases z; rw [h1] at h2; cases h2)⟩
  · obtain rfl := List.mem_singleton.mp m
    refine ⟨fun xs q => (by rw [h4] at q; cases q), ?_⟩
    generalize c.tri = tri at h5 ne
    cases h5 with
    | nil => exact absurd rfl ne
    | @cons a b l1 l2 f r =>
      obtain ⟨k, v⟩ := a
      have : k = Sum.inr b.1 := f.1
      subst this
      exact text_loose h4
/-! names, points -/
theorem tri_val {H : Hp} : ∀ {kvs : List (Key × V)} {tri : List (Str × P3)}, TriAt H kvs tri → ∀ x : Str, (∃ e v, tri.find? (fun e => decide (e.1 = x)) = some e ∧ valV kvs (Sum.inr x : Key) = some v ∧ TripE H v e.2) ∨ (tri.find? (fun e => decide (e.1 = x)) = none ∧ valV kvs (Sum.inr x : Key) = none)
  | _, _, .nil, x => .inr ⟨rfl, rfl⟩
  | _, _, .cons (a := (k, v)) (b := e) (l₁ := kvs) (l₂ := tri) f r, x => by
    obtain ⟨f1, f2⟩ := f
    have f1 : k = Sum.inr e.1 := f1
    subst f1
    by_cases h : e.1 = x
    · subst h
      exact .inl ⟨e, v, by rw [List.find?_cons, decide_eq_true rfl], valV_pos rfl, f2⟩
    · have e1 : valV ((Sum.inr e.1, v) :: kvs) (Sum.inr x : Key) = valV kvs (Sum.inr x : Key) := valV_neg fun q => h (Sum.inr.inj q)
      rw [e1, List.find?_cons, decide_eq_false h]
      exact tri_val r x
theorem find_mem {tri : List (Str × P3)} {x : Str} : (tri.find? fun e => decide (e.1 = x)).isSome = decide (x ∈ tri.map (·.1)) := by
  cases h : tri.find? fun e => decide (e.1 = x) with
  | some e =>
    have h1 := List.mem_of_find?_eq_some h
    have h2 := List.find?_some h
    have h3 : e.1 = x := of_decide_eq_true h2
    exact (decide_eq_true (List.mem_map.mpr ⟨e, h1, h3⟩)).symm
  | none =>
    refine (decide_eq_false fun m => ?_).symm
    obtain ⟨e, me, q⟩ := List.mem_map.mp m
    have := List.find?_eq_none.mp h e me
    exact this (decide_eq_true q)
theorem ConAt.namesD {C : Addr} {H : Hp} {o : Own} {c : Cst} (h : ConAt C H o c) : NamesD H o.t c.names := by
  obtain ⟨kvs, h4, h5⟩ := h.tr
  refine ⟨kvs, h4, fun x => ?_⟩
  have e : (c.tri.find? fun e => decide (e.1 = x)).isSome = decide (x ∈ c.names) := find_mem
  rcases tri_val h5 x with ⟨e1, v, a, b, _⟩ | ⟨a, b⟩
  · rw [a] at e; rw [b, ← e]; rfl
  · rw [a] at e; rw [b, ← e]; rfl
theorem ConAt.trisD {C : Addr} {H : Hp} {o : Own} {c : Cst} (h : ConAt C H o c) : TrisD H o.t c.pt := by
  obtain ⟨kvs, h4, h5⟩ := h.tr
  refine ⟨kvs, h4, fun x p e => ?_⟩
  rcases tri_val h5 x with ⟨e1, v, a, b, t⟩ | ⟨a, b⟩
  · unfold Cst.pt at e
    rw [a] at e
    cases e
    exact ⟨v, b, t⟩
  · unfold Cst.pt at e
    rw [a] at e
    cases e
theorem pt_some {c : Cst} {x : Str} (h : x ∈ c.names) : (c.pt x).isSome = true := by
  have e : (c.tri.find? fun e => decide (e.1 = x)).isSome = decide (x ∈ c.names) := find_mem
  unfold Cst.pt
  rw [Option.isSome_map, e]
  exact decide_eq_true h
theorem TriAt.keys {H : Hp} {kvs : List (Key × V)} {tri : List (Str × P3)} (h : TriAt H kvs tri) : kvs.map (fun kv => kV kv.1) = (tri.map (·.1)).map V.str := by
  induction h with
  | nil => rfl
  | @cons a b l1 l2 f r ih =>
    obtain ⟨k, v⟩ := a
    have f1 : k = Sum.inr b.1 := f.1
    subst f1
    rw [List.map_cons, List.map_cons, List.map_cons, ih]
    rfl
/-! unknowns -/
theorem unkN_tl (x : Str) (c : Nat) : TL.tl (unkN x c) = c :: 95 :: TL.tl x := by
  unfold unkN
  rw [TL.tl_append, TL.tl_append, TL.tl_append]
  rfl
theorem tl_ext {a b : Str} (h : TL.tl a = TL.tl b) : a = b := by
  obtain ⟨⟨x⟩⟩ := a
  obtain ⟨⟨y⟩⟩ := b
  have : x = y := h
  rw [this]
theorem unkN_inj {a b : Str} {c d : Nat} (h : unkN a c = unkN b d) : a = b ∧ c = d := by
  have e := congrArg TL.tl h
  rw [unkN_tl, unkN_tl] at e
  injection e with e1 e2
  injection e2 with e3 e4
  exact ⟨tl_ext e4, e1⟩
theorem unkT_nd : ∀ d : Wd, (unkT d).cps.toList.Nodup := by intro d; cases d <;> decide +kernel
theorem newUnk_nd (s : Stp) : (newUnk s).Nodup := List.Pairwise.map _ (fun _ _ n q => n (unkN_inj q).2) (unkT_nd s.w)
theorem mem_newUnk {s : Stp} {x : Str} (h : x ∈ newUnk s) : ∃ c, x = unkN s.nm c := by
  obtain ⟨c, _, e⟩ := List.mem_map.mp h
  exact ⟨c, e.symm⟩
theorem unk_nodup : ∀ {l : List Stp}, (l.map (·.nm)).Nodup → (l.flatMap newUnk).Nodup
  | [], _ => List.nodup_nil
  | s :: l, h => by
    have nd := List.nodup_cons.mp h
    rw [List.flatMap_cons]
    refine List.nodup_append.mpr ⟨newUnk_nd s, unk_nodup nd.2, fun a ha b hb e => ?_⟩
    obtain ⟨c, ec⟩ := mem_newUnk ha
    obtain ⟨s2, m2, hb2⟩ := List.mem_flatMap.mp hb
    obtain ⟨c2, ec2⟩ := mem_newUnk hb2
    have := (unkN_inj (ec.symm.trans (e.trans ec2))).1
    exact nd.1 (List.mem_map.mpr ⟨s2, m2, this.symm⟩)
theorem Cok.new : Cok Cst.new := ⟨List.nodup_nil, rfl, rfl, fun _ h => (nomatch h), Nat.zero_le _, Nat.zero_le _⟩
theorem Cok.add {c : Cst} {s : Stp} (h : Cok c) (r : Right c.names s) (l : c.steps.length < 12) (u : (c.unk ++ newUnk s).length ≤ 8) : Cok (c.add s) := by
  refine ⟨?_, ?_, ?_, fun x m => ?_, ?_, u⟩
  · show ((c.tri ++ [(s.nm, c.mk3 s)]).map (·.1)).Nodup
    rw [List.map_append]
    refine List.nodup_append.mpr ⟨h.nd, nd_one _, fun a ha b hb e => ?_⟩
    have : b = s.nm := List.mem_singleton.mp hb
    rw [this] at e
    rw [e] at ha
    exact r.new ha
  · show (c.tri ++ [(s.nm, c.mk3 s)]).map (·.1) = (c.steps ++ [s]).map (·.nm)
    rw [List.map_append, List.map_append, ← h.nm]
    rfl
  · show c.unk ++ newUnk s = (c.steps ++ [s]).flatMap newUnk
    rw [List.flatMap_append, ← h.un]
    simp
  · rcases List.mem_append.mp m with m | m
    · exact h.st x m
    · rw [List.mem_singleton.mp m]
      exact ⟨r.shp, r.nm⟩
  · show (c.steps ++ [s]).length ≤ 12
    rw [List.length_append]
    exact l
theorem Cok.unkNd {c : Cst} (h : Cok c) : c.unk.Nodup := by
  rw [h.un]
  exact unk_nodup (by rw [← h.nm]; exact h.nd)
theorem Cok.unkNew {c : Cst} {s : Stp} (h : Cok c) (r : Right c.names s) : (c.unk ++ newUnk s).Nodup := by
  refine List.nodup_append.mpr ⟨h.unkNd, newUnk_nd s, fun a ha b hb e => ?_⟩
  rw [h.un] at ha
  obtain ⟨s2, m2, hb2⟩ := List.mem_flatMap.mp ha
  obtain ⟨c1, e1⟩ := mem_newUnk hb2
  obtain ⟨c2, e2⟩ := mem_newUnk hb
  have := (unkN_inj (e1.symm.trans (e.trans e2))).1
  refine r.new ?_
  rw [h.nm]
  exact List.mem_map.mpr ⟨s2, m2, this⟩
theorem Cok.triLen {c : Cst} (h : Cok c) : c.tri.length = c.steps.length := by
  have := congrArg List.length h.nm
  rw [List.length_map] at this
  unfold Cst.names at this
  rw [List.length_map] at this
  exact this
/-! what add makes of the heap -/
theorem TabE.off {D : List Addr} {H G : Hp} {v : V} {e : Px} (h : TabE H v e) (c : Chg D H G) (n : ∀ d, v = .ref d → d ∉ D) : TabE G v e := by
  obtain ⟨d, T, e1, ⟨h1, h2⟩, h3⟩ := h
  exact ⟨d, T, e1, ⟨c _ _ h1 (n d e1), h2⟩, h3⟩
theorem TabE.some {H : Hp} {v : V} {e : Px} (h : TabE H v e) {B : Int} (z : evX (powS B) e ≠ 0) {t : Addr} (ht : H t = some (.dK [])) : v ≠ .ref t := fun q => by
  obtain ⟨d, T, e1, ⟨h1, h2⟩, h3⟩ := h
  rw [e1] at q
  cases q
  have ne := h3.there z
  rw [ht] at h1
  cases T with
  | nil => exact ne rfl
  | cons a T => cases h1
theorem pair_snoc {α β : Type} {F : α → β → Prop} {a : α} {b : β} (f : F a b) : ∀ {l : List α} {m : List β}, Paired F l m → Paired F (l ++ [a]) (m ++ [b])
  | _, _, .nil => .cons f .nil
  | _, _, .cons g r => .cons g (pair_snoc f r)
theorem first_free {c : Cst} {s : Stp} (e : c.tri = []) (r : Right c.names s) : s.w = .free := by
  have h : s.el = [] := by
    cases q : s.el with
    | nil => rfl
    | cons x l =>
      have := r.el x (by rw [q]; exact List.mem_cons_self)
      unfold Cst.names at this
      rw [e] at this
      cases this
  have := r.shp.el
  rw [h] at this
  revert this
  cases s.w <;> first | (intro _; rfl) | (intro h; cases h)
theorem add_heap {C : Addr} {H : Hp} {o : Own} {c : Cst} {s : Stp} {a tt l dx : Addr} {svs : List V} {kvs : List (Key × V)} (hc : ConAt C H o c) (ck : Cok c) (rt : Right c.names s) (ha : H a = some (.tup s.vals)) (tv : TripE H (.ref tt) (c.mk3 s))
    (hl : H l = some (.lst ((c.unk ++ newUnk s).map V.str))) (lp : l ≠ o.p) (ls : l ≠ o.s) (lt : l ≠ o.t) (hob : H o.p = some (.ins C dx (cF o))) (hs : H o.s = some (.lst svs)) (hsp : Paired (StepAt H) svs c.steps) (ht : H o.t = some (.dK kvs)) (htr : TriAt H kvs c.tri) :
    ConAt C (upd (upd (upd H o.s (.lst (svs ++ [.ref a]))) o.p (.ins C dx (cF ⟨o.p, o.s, l, o.t⟩))) o.t (.dK (putK kvs (Sum.inr s.nm : Key) (.ref tt)))) ⟨o.p, o.s, l, o.t⟩ (c.add s) ∧
    Chg [o.p, o.s, o.t] H (upd (upd (upd H o.s (.lst (svs ++ [.ref a]))) o.p (.ins C dx (cF ⟨o.p, o.s, l, o.t⟩))) o.t (.dK (putK kvs (Sum.inr s.nm : Key) (.ref tt)))) := by
  have ps : o.p ≠ o.s := fun z => by rw [z, hs] at hob; cases hob
  have pt : o.p ≠ o.t := fun z => by rw [z, ht] at hob; cases hob
  have st : o.s ≠ o.t := fun z => by rw [z, ht] at hs; cases hs
  have cg : Chg [o.p, o.s, o.t] H (upd (upd (upd H o.s (.lst (svs ++ [.ref a]))) o.p (.ins C dx (cF ⟨o.p, o.s, l, o.t⟩))) o.t (.dK (putK kvs (Sum.inr s.nm : Key) (.ref tt)))) := fun b x q m => by
    have mp : b ≠ o.p := fun z => m (by rw [z]; exact List.mem_cons_self)
    have ms : b ≠ o.s := fun z => m (by rw [z]; exact List.mem_cons_of_mem _ List.mem_cons_self)
    have mt : b ≠ o.t := fun z => m (by rw [z]; exact List.mem_cons_of_mem _ (List.mem_cons_of_mem _ List.mem_cons_self))
    exact (upd_ne mt).trans ((upd_ne mp).trans ((upd_ne ms).trans q))
  have e1 : (upd (upd (upd H o.s (.lst (svs ++ [.ref a]))) o.p (.ins C dx (cF ⟨o.p, o.s, l, o.t⟩))) o.t (.dK (putK kvs (Sum.inr s.nm : Key) (.ref tt)))) o.p = some (.ins C dx (cF ⟨o.p, o.s, l, o.t⟩)) := (upd_ne pt).trans upd_same
  have e2 : (upd (upd (upd H o.s (.lst (svs ++ [.ref a]))) o.p (.ins C dx (cF ⟨o.p, o.s, l, o.t⟩))) o.t (.dK (putK kvs (Sum.inr s.nm : Key) (.ref tt)))) o.s = some (.lst (svs ++ [.ref a])) := (upd_ne st).trans ((upd_ne (Ne.symm ps)).trans upd_same)
  have e3 : (upd (upd (upd H o.s (.lst (svs ++ [.ref a]))) o.p (.ins C dx (cF ⟨o.p, o.s, l, o.t⟩))) o.t (.dK (putK kvs (Sum.inr s.nm : Key) (.ref tt)))) o.t = some (.dK (putK kvs (Sum.inr s.nm : Key) (.ref tt))) := upd_same
  generalize (upd (upd (upd H o.s (.lst (svs ++ [.ref a]))) o.p (.ins C dx (cF ⟨o.p, o.s, l, o.t⟩))) o.t (.dK (putK kvs (Sum.inr s.nm : Key) (.ref tt)))) = G at cg e1 e2 e3 ⊢
  have tup : ∀ b xs, H b = some (.tup xs) → G b = some (.tup xs) := fun b xs q => cg _ _ q fun m => by
    rcases List.mem_cons.mp m with rfl | m
    · rw [hob] at q; cases q
    rcases List.mem_cons.mp m with rfl | m
    · rw [hs] at q; cases q
    · obtain rfl := List.mem_singleton.mp m
      rw [ht] at q; cases q
  have tab : ∀ v e, TabE H v e → v ≠ .ref o.t → TabE G v e := fun v e h n => h.off cg fun d ed m => by
    obtain ⟨d2, T, e2, ⟨h1, _⟩, _⟩ := h
    rw [ed] at e2
    cases e2
    rcases List.mem_cons.mp m with rfl | m
    · rw [hob] at h1; cases h1
    rcases List.mem_cons.mp m with rfl | m
    · rw [hs] at h1; cases h1
    · obtain rfl := List.mem_singleton.mp m
      exact n ed
  have trip : ∀ v p, TripE H v p → (∀ w e, TabE H w e → w ≠ .ref o.t) → TripE G v p := fun v p ⟨t, u0, u1, u2, e, h0, h1, h2, h3⟩ l => ⟨t, u0, u1, u2, e, tup _ _ h0, tab _ _ h1 (l _ _ h1), tab _ _ h2 (l _ _ h2), tab _ _ h3 (l _ _ h3)⟩
  have new : valV kvs (Sum.inr s.nm : Key) = none := by
    rcases tri_val htr s.nm with ⟨e, v, a, b, _⟩ | ⟨_, b⟩
    · have h2 := List.find?_some a
      exact absurd (List.mem_map.mpr ⟨e, List.mem_of_find?_eq_some a, of_decide_eq_true (p := e.1 = s.nm) h2⟩) rt.new
    · exact b
  have tt2 : TripE G (.ref tt) (c.mk3 s) ∧ TriAt G kvs c.tri := by
    by_cases ne : c.tri = []
    · have fr := first_free ne rt
      have kn : kvs = [] := by
        rw [ne] at htr
        cases htr
        rfl
      have un : c.unk = [] := by
        rw [ck.un]
        have := ck.triLen
        rw [ne] at this
        rw [List.length_eq_zero_iff.mp this.symm]
        rfl
      rw [kn] at ht
      have e : c.mk3 s = placedX (.var 0) (.var 1) := by
        unfold Cst.mk3 Stp.mk3
        rw [fr, un]
        rfl
      rw [e] at tv ⊢
      obtain ⟨t, u0, u1, u2, e, h0, h1, h2, h3⟩ := tv
      refine ⟨⟨t, u0, u1, u2, e, tup _ _ h0, tab _ _ h1 (h1.some (B := 1) ?_ ht), tab _ _ h2 (h2.some (B := 1) ?_ ht), tab _ _ h3 (h3.some (B := 1) ?_ ht)⟩, by rw [ne, kn]; exact .nil⟩
      · show (1 : Int) ^ (radix ^ 0) ≠ 0
        rw [Int.one_pow]; decide
      · show (1 : Int) ^ (radix ^ 1) ≠ 0
        rw [Int.one_pow]; decide
      · show (1 : Int) ≠ 0
        decide
    · have l := (hc.loose ne o.t (List.mem_cons_of_mem _ (List.mem_cons_of_mem _ List.mem_cons_self))).2
      exact ⟨trip _ _ tv l, pair_imp (fun _ _ q => ⟨q.1, trip _ _ q.2 l⟩) htr⟩
  have lg : G l = some (.lst ((c.unk ++ newUnk s).map V.str)) := cg _ _ hl fun m => by
    rcases List.mem_cons.mp m with rfl | m
    · exact lp rfl
    rcases List.mem_cons.mp m with rfl | m
    · exact ls rfl
    · exact lt (List.mem_singleton.mp m)
  refine ⟨⟨⟨dx, e1⟩, ⟨svs ++ [.ref a], e2, pair_snoc ⟨a, rfl, tup _ _ ha⟩ (pair_imp (fun _ _ q => q.elim fun b ⟨e, h⟩ => ⟨b, e, tup _ _ h⟩) hsp)⟩, lg, ⟨_, e3, ?_⟩, Ne.symm ls⟩, cg⟩
  rw [putK_new _ new]
  exact pair_snoc ⟨rfl, tt2.1⟩ tt2.2
end CN

set_option Elab.async false
set_option linter.all false
set_option maxRecDepth 100000
set_option maxHeartbeats 4000000
set_option autoImplicit false
set_option exponentiation.threshold 1000
/-! A table's keys read back into exponents: values at any whole numbers. Maths. -/
namespace CN
open PySem L2 K1D K2P
def valD : Nat → (Nat → Nat) → Nat
  | 0, _ => 0
  | n + 1, f => f 0 + radix * valD n fun i => f (i + 1)
def prodD : Nat → (Nat → Int) → (Nat → Nat) → Int
  | 0, _, _ => 1
  | n + 1, s, f => s 0 ^ f 0 * prodD n (fun i => s (i + 1)) fun i => f (i + 1)
def monD : Nat → (Nat → Int) → Nat → Int
  | 0, _, _ => 1
  | n + 1, s, k => s 0 ^ (k % radix) * monD n (fun i => s (i + 1)) (k / radix)
theorem radix_pos : 0 < radix := by decide
theorem mon_val : ∀ (n : Nat) (s : Nat → Int) (f : Nat → Nat), (∀ i, i < n → f i < radix) → monD n s (valD n f) = prodD n s f
  | 0, _, _, _ => rfl
  | n + 1, s, f, h => by
    show s 0 ^ ((f 0 + radix * valD n fun i => f (i + 1)) % radix) * monD n (fun i => s (i + 1)) ((f 0 + radix * valD n fun i => f (i + 1)) / radix) = _
    have h0 := h 0 (Nat.succ_pos n)
    rw [Nat.add_mul_mod_self_left, Nat.mod_eq_of_lt h0, Nat.add_mul_div_left _ _ radix_pos, Nat.div_eq_of_lt h0, Nat.zero_add, mon_val n _ _ fun i hi => h (i + 1) (by omega)]
    rfl
theorem val_add : ∀ (n : Nat) (f g : Nat → Nat), valD n (fun i => f i + g i) = valD n f + valD n g
  | 0, _, _ => rfl
  | n + 1, f, g => by
    show (f 0 + g 0) + radix * valD n (fun i => f (i + 1) + g (i + 1)) = _
    rw [val_add n (fun i => f (i + 1)) fun i => g (i + 1), Nat.mul_add]
    show _ = (f 0 + radix * valD n fun i => f (i + 1)) + (g 0 + radix * valD n fun i => g (i + 1))
    omega
theorem prod_add : ∀ (n : Nat) (s : Nat → Int) (f g : Nat → Nat), prodD n s (fun i => f i + g i) = prodD n s f * prodD n s g
  | 0, _, _, _ => rfl
  | n + 1, s, f, g => by
    show s 0 ^ (f 0 + g 0) * prodD n (fun i => s (i + 1)) (fun i => f (i + 1) + g (i + 1)) = _
    rw [prod_add n _ (fun i => f (i + 1)) fun i => g (i + 1), Int.pow_add]
    show _ = (s 0 ^ f 0 * prodD n (fun i => s (i + 1)) fun i => f (i + 1)) * (s 0 ^ g 0 * prodD n (fun i => s (i + 1)) fun i => g (i + 1))
    simp only [Int.mul_assoc, Int.mul_left_comm, Int.mul_comm]
theorem val_zero : ∀ n : Nat, valD n (fun _ => 0) = 0
  | 0 => rfl
  | n + 1 => by
    show 0 + radix * valD n (fun _ => 0) = 0
    rw [val_zero n, Nat.mul_zero]
theorem prod_zero : ∀ (n : Nat) (s : Nat → Int), prodD n s (fun _ => 0) = 1
  | 0, _ => rfl
  | n + 1, s => by
    show s 0 ^ 0 * prodD n _ (fun _ => 0) = 1
    rw [prod_zero n, Int.pow_zero]
    rfl
def oneAt (j : Nat) : Nat → Nat := fun i => if i = j then 1 else 0
theorem val_one : ∀ (n j : Nat), j < n → valD n (oneAt j) = radix ^ j
  | 0, j, h => by omega
  | n + 1, 0, _ => by
    show (if (0 : Nat) = 0 then 1 else 0) + radix * valD n (fun i => if i + 1 = 0 then 1 else 0) = _
    have e : (fun i : Nat => if i + 1 = 0 then 1 else 0) = fun _ => 0 := by funext i; simp
    rw [e, val_zero]
    rfl
  | n + 1, j + 1, h => by
    show (if (0 : Nat) = j + 1 then 1 else 0) + radix * valD n (fun i => if i + 1 = j + 1 then 1 else 0) = _
    have e : (fun i : Nat => if i + 1 = j + 1 then 1 else 0) = oneAt j := by funext i; unfold oneAt; simp
    rw [e, val_one n j (by omega), Nat.pow_succ, Nat.mul_comm]
    simp
theorem prod_one : ∀ (n j : Nat) (s : Nat → Int), j < n → prodD n s (oneAt j) = s j
  | 0, j, _, h => by omega
  | n + 1, 0, s, _ => by
    show s 0 ^ (if (0 : Nat) = 0 then 1 else 0) * prodD n _ (fun i => if i + 1 = 0 then 1 else 0) = s 0
    have e : (fun i : Nat => if i + 1 = 0 then 1 else 0) = fun _ => 0 := by funext i; simp
    rw [e, prod_zero, if_pos rfl, Int.mul_one, Int.pow_succ, Int.pow_zero, Int.one_mul]
  | n + 1, j + 1, s, h => by
    show s 0 ^ (if (0 : Nat) = j + 1 then 1 else 0) * prodD n (fun i => s (i + 1)) (fun i => if i + 1 = j + 1 then 1 else 0) = s (j + 1)
    have e : (fun i : Nat => if i + 1 = j + 1 then 1 else 0) = oneAt j := by funext i; unfold oneAt; simp
    rw [e, prod_one n j _ (by omega)]
    simp
/-- degrees; the variables' bound -/
def dg : Px → Nat
  | .num _ => 0
  | .var _ => 1
  | .add a b => max (dg a) (dg b)
  | .sub a b => max (dg a) (dg b)
  | .mul a b => dg a + dg b
  | .scl a _ => dg a
def Vars (n : Nat) : Px → Prop
  | .num _ => True
  | .var i => i < n
  | .add a b => Vars n a ∧ Vars n b
  | .sub a b => Vars n a ∧ Vars n b
  | .mul a b => Vars n a ∧ Vars n b
  | .scl a _ => Vars n a
def DigT (n d : Nat) (T : KI) : Prop := ∀ x ∈ T, ∃ f : Nat → Nat, x.1 = (valD n f : Nat) ∧ ∀ i, i < n → f i ≤ d
theorem DigT.mono {n d e : Nat} {T : KI} (h : DigT n d T) (l : d ≤ e) : DigT n e T := fun x m => (h x m).elim fun f ⟨a, b⟩ => ⟨f, a, fun i hi => Nat.le_trans (b i hi) l⟩
theorem DigT.app {n d : Nat} {T S : KI} (h : DigT n d T) (g : DigT n d S) : DigT n d (T ++ S) := fun x m => (List.mem_append.mp m).elim (h x) (g x)
theorem DigT.sc {n d : Nat} {T : KI} (h : DigT n d T) (k : Int) : DigT n d (T.map fun x => (x.1, x.2 * k)) := fun x m => by
  obtain ⟨y, my, rfl⟩ := List.mem_map.mp m
  exact h y my
theorem DigT.row {n d e : Nat} {x : Int × Int} {S : KI} (hx : ∃ f : Nat → Nat, x.1 = (valD n f : Nat) ∧ ∀ i, i < n → f i ≤ d) (g : DigT n e S) : DigT n (d + e) (rowL (· + ·) x S) := fun y m => by
  obtain ⟨z, mz, rfl⟩ := List.mem_map.mp m
  obtain ⟨f, a, b⟩ := hx
  obtain ⟨f2, a2, b2⟩ := g z mz
  refine ⟨fun i => f i + f2 i, ?_, fun i hi => Nat.add_le_add (b i hi) (b2 i hi)⟩
  show x.1 + z.1 = _
  rw [a, a2, val_add]
  rfl
theorem DigT.prod {n d e : Nat} {S : KI} (g : DigT n e S) : ∀ {T : KI}, DigT n d T → DigT n (d + e) (prodL (· + ·) T S)
  | [], _ => fun x m => nomatch m
  | x :: T, h => by
    rw [prodL_cons]
    exact (DigT.row (h x List.mem_cons_self) g).app (DigT.prod g fun y m => h y (List.mem_cons_of_mem _ m))
theorem dig_tab {n : Nat} : ∀ {e : Px}, Vars n e → DigT n (dg e) (tabX e)
  | .num k, _ => fun x m => by
    rw [List.mem_singleton.mp m]
    exact ⟨fun _ => 0, by rw [val_zero]; rfl, fun _ _ => Nat.le_refl _⟩
  | .var i, h => fun x m => by
    rw [List.mem_singleton.mp m]
    exact ⟨oneAt i, by rw [val_one n i h], fun j _ => by unfold oneAt; show _ ≤ 1; split <;> omega⟩
  | .add a b, h => ((dig_tab h.1).mono (Nat.le_max_left _ _)).app ((dig_tab h.2).mono (Nat.le_max_right _ _))
  | .sub a b, h => ((dig_tab h.1).mono (Nat.le_max_left _ _)).app (((dig_tab h.2).mono (Nat.le_max_right _ _)).sc (-1))
  | .mul a b, h => (dig_tab h.2).prod (dig_tab h.1)
  | .scl a k, h => (dig_tab (e := a) h).sc k
/-! the value of a table where each key has its own -/
def evM (m : Int → Int) : KI → Int
  | [] => 0
  | x :: T => x.2 * m x.1 + evM m T
theorem evM_app (m : Int → Int) : ∀ a b : KI, evM m (a ++ b) = evM m a + evM m b
  | [], b => by show evM m b = 0 + _; omega
  | x :: a, b => by
    show x.2 * m x.1 + evM m (a ++ b) = x.2 * m x.1 + evM m a + evM m b
    rw [evM_app m a b]
    omega
theorem evM_scale (m : Int → Int) (k : Int) : ∀ T : KI, evM m (T.map fun x => (x.1, x.2 * k)) = evM m T * k
  | [] => (Int.zero_mul k).symm
  | x :: T => by
    show x.2 * k * m x.1 + evM m (T.map fun x => (x.1, x.2 * k)) = (x.2 * m x.1 + evM m T) * k
    rw [evM_scale m k T, Int.add_mul, Int.mul_right_comm]
theorem evM_filter (m : Int → Int) (g : Int) : ∀ l : KI, evM m l = tot l g * m g + evM m (l.filter fun x => decide (x.1 ≠ g))
  | [] => by show (0 : Int) = 0 * _ + 0; omega
  | x :: l => by
    have ih := evM_filter m g l
    show x.2 * m x.1 + evM m l = ((if x.1 = g then x.2 else 0) + tot l g) * m g + _
    rw [List.filter_cons]
    by_cases h : x.1 = g
    · rw [if_pos h, if_neg (by simp [h]), Int.add_mul, ih, h]
      omega
    · rw [if_neg h, if_pos (by simp [h]), Int.zero_add]
      show _ = _ + (x.2 * m x.1 + evM m _)
      omega
theorem evM_zero (m : Int → Int) : ∀ (n : Nat) (l : KI), l.length ≤ n → (∀ f, tot l f = 0) → evM m l = 0
  | _, [], _, _ => rfl
  | 0, x :: l, h, _ => by cases h
  | n + 1, x :: l, h, z => by
    rw [evM_filter m x.1, z, Int.zero_mul, Int.zero_add]
    refine evM_zero m n _ ?_ fun f => ?_
    · rw [List.filter_cons, if_neg (by simp)]
      have := List.length_filter_le (fun y : Int × Int => decide (y.1 ≠ x.1)) l
      rw [List.length_cons] at h
      omega
    · by_cases q : f = x.1
      · rw [q]
        exact tot_none fun y hy => by simpa using (List.mem_filter.mp hy).2
      · rw [totI_filter _ _ q, z]
theorem evM_row {n d e : Nat} {s : Nat → Int} {x : Int × Int} (hx : ∃ f : Nat → Nat, x.1 = (valD n f : Nat) ∧ ∀ i, i < n → f i ≤ d) (l : d + e < radix) : ∀ {S : KI}, DigT n e S → evM (fun k => monD n s k.toNat) (rowL (· + ·) x S) = x.2 * monD n s x.1.toNat * evM (fun k => monD n s k.toNat) S
  | [], _ => (Int.mul_zero _).symm
  | y :: S, g => by
    obtain ⟨f, a, b⟩ := id hx
    obtain ⟨f2, a2, b2⟩ := g y List.mem_cons_self
    have ih := evM_row (s := s) hx l (S := S) fun z m => g z (List.mem_cons_of_mem _ m)
    show (x.2 * y.2) * monD n s (x.1 + y.1).toNat + evM _ (rowL (· + ·) x S) = x.2 * monD n s x.1.toNat * (y.2 * monD n s y.1.toNat + evM _ S)
    have e1 : (x.1 + y.1).toNat = valD n (fun i => f i + f2 i) := by rw [a, a2, val_add]; omega
    have e2 : x.1.toNat = valD n f := by rw [a]; omega
    have e3 : y.1.toNat = valD n f2 := by rw [a2]; omega
    rw [ih, e1, e2, e3, mon_val n s _ fun i hi => Nat.lt_of_le_of_lt (Nat.add_le_add (b i hi) (b2 i hi)) l, mon_val n s f fun i hi => by have := b i hi; omega, mon_val n s f2 fun i hi => by have := b2 i hi; omega, prod_add, Int.mul_add]
    congr 1
    simp only [Int.mul_assoc, Int.mul_left_comm, Int.mul_comm]
theorem evM_prod {n d e : Nat} {s : Nat → Int} {S : KI} (g : DigT n e S) (l : d + e < radix) : ∀ {T : KI}, DigT n d T → evM (fun k => monD n s k.toNat) (prodL (· + ·) T S) = evM (fun k => monD n s k.toNat) T * evM (fun k => monD n s k.toNat) S
  | [], _ => (Int.zero_mul _).symm
  | x :: T, h => by
    rw [prodL_cons, evM_app, evM_row (h x List.mem_cons_self) l g, evM_prod g l fun y m => h y (List.mem_cons_of_mem _ m)]
    show _ = (x.2 * monD n s x.1.toNat + _) * _
    rw [Int.add_mul]
theorem evM_tab {n : Nat} (s : Nat → Int) : ∀ {e : Px}, Vars n e → dg e < radix → evM (fun k => monD n s k.toNat) (tabX e) = evX s e
  | .num k, _, _ => by
    show k * monD n s (0 : Int).toNat + 0 = k
    have : monD n s (0 : Int).toNat = 1 := by
      have e := mon_val n s (fun _ => 0) fun _ _ => radix_pos
      rw [val_zero, prod_zero] at e
      exact e
    rw [this]
    omega
  | .var i, h, _ => by
    show 1 * monD n s ((radix ^ i : Nat) : Int).toNat + 0 = s i
    have e := mon_val n s (oneAt i) fun j _ => by unfold oneAt; split <;> decide
    rw [val_one n i h, prod_one n i s h] at e
    rw [show ((radix ^ i : Nat) : Int).toNat = radix ^ i from Int.toNat_natCast _, e]
    omega
  | .add a b, h, l => by
    have l : max (dg a) (dg b) < radix := l
    show evM _ (tabX a ++ tabX b) = _
    rw [evM_app, evM_tab s h.1 (by omega), evM_tab s h.2 (by omega)]
    rfl
  | .sub a b, h, l => by
    have l : max (dg a) (dg b) < radix := l
    show evM _ (tabX a ++ (tabX b).map fun x => (x.1, x.2 * -1)) = evX s a - evX s b
    rw [evM_app, evM_scale, evM_tab s h.1 (by omega), evM_tab s h.2 (by omega)]
    omega
  | .mul a b, h, l => by
    have l : dg a + dg b < radix := l
    show evM _ (prodL _ _ _) = _
    rw [evM_prod (dig_tab h.2) l (dig_tab h.1), evM_tab s h.1 (by omega), evM_tab s h.2 (by omega)]
    rfl
  | .scl a k, h, l => by
    show evM _ ((tabX a).map fun x => (x.1, x.2 * k)) = _
    rw [evM_scale, evM_tab s (e := a) h l]
    rfl
/-- one that is not 0 at some whole numbers has a table that is not empty -/
theorem Rep.point {T : KI} {e : Px} (h : Rep T e) {n : Nat} {s : Nat → Int} (v : Vars n e) (d : dg e < radix) (z : evX s e ≠ 0) : T ≠ [] := fun q => by
  refine z ?_
  rw [← evM_tab s v d]
  refine evM_zero _ _ _ (Nat.le_refl _) fun f => ?_
  rw [← h.tot f, q]
  rfl
/-- no table of it is empty -/
def NZ (e : Px) : Prop := ∀ T, Rep T e → T ≠ []
theorem nz_point {e : Px} {n : Nat} {s : Nat → Int} (v : Vars n e) (d : dg e < radix) (z : evX s e ≠ 0) : NZ e := fun _ h => h.point v d z
end CN

set_option Elab.async false
set_option linter.all false
set_option maxRecDepth 100000
set_option maxHeartbeats 4000000
set_option autoImplicit false
set_option pp.maxSteps 300
/-! Construction: a new one; add. -/
namespace CN
open PySem L2 K1D K2P
open K4 (isNm)
abbrev sCInit : Stmt := inClass (K2P.top 60) 0
abbrev sAdd : Stmt := inClass (K2P.top 60) 1
def spCInit (C : Addr) : Sp := fun vs H Q _ => ∃ (p dx : Addr), vs = [.ref p] ∧ H p = some (.ins C dx []) ∧
  ∀ (o : Own) (G : Hp), o.p = p → ConAt C G o Cst.new → (∀ b x, H b = some x → b ≠ p → G b = some x) → H o.s = none → H o.u = none → H o.t = none → Q .non G
section
variable {P : Program} {w : World} {K : PySem.W.Frag} {mg : Str → Option Value} {base : Heap} {C : Addr}
theorem scCInit : FnScope ["self"] ["self"] (defScope sCInit) := ⟨rfl, rfl, rfl, by decide +kernel, rfl, by decide +kernel, by decide +kernel⟩
theorem ok_cinit {f : Addr} {fd : FuncData} (F : Fun K "__init__" "Construction.__init__" sCInit f fd) (CT : ConTxt K mg C) : FnOk P w K mg base CX0 1 f fd ["self"] (spCInit C) := by
  refine F.ok scCInit (fun vs H Q E h => ?_) (fun cdv A outer s H vs Q E hr h => ?_)
  · obtain ⟨p, dx, rfl, _⟩ := h
    rfl
  · obtain ⟨p, dx, rfl, hp, go⟩ := h
    refine ⟨_, (pss_cons (ps_fld (pv 0) (pe_lst pa_nil) rfl)
      (pss_cons (ps_fld (pv 0) (pe_lst pa_nil) rfl)
      (pss_one (ps_fld (pv 0) pe_dnewK rfl)))), ?_⟩
    refine ⟨by show 0 ≤ sizeLine; decide, fun a n1 => ⟨_, rfl, p, C, dx, [], rfl, same_new n1 _ _ hp, CT.cl, CT.nS, (by show 0 < 1000; decide), ?_⟩⟩
    have pa : p ≠ a := ne_of_none hp n1
    have e1 : upd (upd H a (.lst [])) p (.ins C dx (putF "_steps" (.ref a) [])) p = some (.ins C dx [("_steps", .ref a)]) := upd_same
    have e2 : upd (upd H a (.lst [])) p (.ins C dx (putF "_steps" (.ref a) [])) a = some (.lst []) := (upd_ne (Ne.symm pa)).trans upd_same
    have e3 : ∀ b x, H b = some x → b ≠ p → upd (upd H a (.lst [])) p (.ins C dx (putF "_steps" (.ref a) [])) b = some x := fun b x q ne => (upd_ne ne).trans (same_new n1 _ _ q)
    have e4 : ∀ b, upd (upd H a (.lst [])) p (.ins C dx (putF "_steps" (.ref a) [])) b = none → H b = none := fun b q => by
      cases hb : H b with
      | none => rfl
      | some x =>
        by_cases bp : b = p
        · rw [bp, e1] at q; cases q
        · rw [e3 b x hb bp] at q; cases q
    generalize upd (upd H a (.lst [])) p (.ins C dx (putF "_steps" (.ref a) [])) = H1 at e1 e2 e3 e4 ⊢
    refine ⟨by show 0 ≤ sizeLine; decide, fun b n2 => ⟨_, rfl, p, C, dx, _, rfl, same_new n2 _ _ e1, CT.cl, CT.nU, (by show 1 < 1000; decide), ?_⟩⟩
    have pb : p ≠ b := ne_of_none e1 n2
    have ab : a ≠ b := ne_of_none e2 n2
    have n1u : ¬ (("_steps" : Str) = "_unknowns") := by decide +kernel
    have n1t : ¬ (("_steps" : Str) = "_triples") := by decide +kernel
    have n2t : ¬ (("_unknowns" : Str) = "_triples") := by decide +kernel
    have p2 : putF "_unknowns" (.ref b) ([("_steps", .ref a)] : List (Str × V)) = ([("_steps", .ref a), ("_unknowns", .ref b)] : List (Str × V)) := by
      show (if ("_steps" : Str) = "_unknowns" then _ else (("_steps" : Str), V.ref a) :: putF "_unknowns" (.ref b) []) = _
      rw [if_neg n1u]
      rfl
    rw [p2]
    have f1 : upd (upd H1 b (.lst [])) p (.ins C dx [("_steps", .ref a), ("_unknowns", .ref b)]) p = some (.ins C dx [("_steps", .ref a), ("_unknowns", .ref b)]) := upd_same
    have f2 : upd (upd H1 b (.lst [])) p (.ins C dx [("_steps", .ref a), ("_unknowns", .ref b)]) a = some (.lst []) := (upd_ne (Ne.symm pa)).trans ((upd_ne ab).trans e2)
    have f3 : upd (upd H1 b (.lst [])) p (.ins C dx [("_steps", .ref a), ("_unknowns", .ref b)]) b = some (.lst []) := (upd_ne (Ne.symm pb)).trans upd_same
    have f4 : ∀ d x, H d = some x → d ≠ p → upd (upd H1 b (.lst [])) p (.ins C dx [("_steps", .ref a), ("_unknowns", .ref b)]) d = some x := fun d x q ne => (upd_ne ne).trans (same_new n2 _ _ (e3 d x q ne))
    generalize upd (upd H1 b (.lst [])) p (.ins C dx [("_steps", .ref a), ("_unknowns", .ref b)]) = H2 at f1 f2 f3 f4 ⊢
    intro d n3
    refine ⟨_, rfl, p, C, dx, _, rfl, same_new n3 _ _ f1, CT.cl, CT.nT, (by show 2 < 1000; decide), ?_⟩
    have pd : p ≠ d := ne_of_none f1 n3
    have ad : a ≠ d := ne_of_none f2 n3
    have bd : b ≠ d := ne_of_none f3 n3
    have p3 : putF "_triples" (.ref d) ([("_steps", .ref a), ("_unknowns", .ref b)] : List (Str × V)) = cF ⟨p, a, b, d⟩ := by
      show (if ("_steps" : Str) = "_triples" then _ else (("_steps" : Str), V.ref a) :: (if ("_unknowns" : Str) = "_triples" then _ else (("_unknowns" : Str), V.ref b) :: putF "_triples" (.ref d) [])) = _
      rw [if_neg n1t, if_neg n2t]
      rfl
    rw [p3]
    have old : ∀ q x, H2 q = none → H q = some x → q = p := fun q x z hq => Classical.byContradiction fun ne => by
      rw [f4 q x hq ne] at z
      cases z
    refine go ⟨p, a, b, d⟩ _ rfl ⟨⟨dx, upd_same⟩, ⟨[], (upd_ne (Ne.symm pa)).trans ((upd_ne ad).trans f2), .nil⟩, (upd_ne (Ne.symm pb)).trans ((upd_ne bd).trans f3), ⟨[], (upd_ne (Ne.symm pd)).trans upd_same, .nil⟩, ab⟩
      (fun q x hq ne => (upd_ne ne).trans (same_new n3 _ _ (f4 q x hq ne))) n1 (e4 b n2) ?_
    cases hd : H d with
    | none => rfl
    | some x => exact absurd (old d x n3 hd).symm pd
end
theorem valV_not {κ : Type} [DecidableEq κ] {kvs : List (κ × V)} {k : κ} (h : k ∉ kvs.map (·.1)) : valV kvs k = none := by
  unfold valV
  rw [List.find?_eq_none.mpr fun p m q => h (List.mem_map.mpr ⟨p, m, of_decide_eq_true q⟩)]
  rfl
/-- a method that may raise -/
structure MethX (P : Program) (w : World) (K : PySem.W.Frag) (mg : Str → Option Value) (base : Heap) (C : Addr) (k : Nat) (x : Str) (ps : List Str) (sp : Sp) (f : Addr) (d : FuncData) : Prop where
  ok : FnOk P w K mg base (L2N.CX P w) k f d ps sp
  b : Binds K d ps []
  m : Meth K C x f
structure InitT (P : Program) (w : World) (K : PySem.W.Frag) (mg : Str → Option Value) (base : Heap) (k : Nat) (ps : List Str) (sp : Sp) (f : Addr) (d : FuncData) : Prop where
  ok : FnOk P w K mg base CX0 k f d ps sp
  b : Binds K d ps []
/-- what add wants of constants and classes -/
structure AddTxt (K : PySem.W.Frag) (mg : Str → Option Value) (CR : Addr) : Prop where
  gT : mg "Tables" = some (.ref CR)
  MR : Mk0 K CR
  g12 : ∃ t, mg "MOST_POINTS" = some (.int 12 t)
  g8 : ∃ t, mg "MOST_UNKNOWNS" = some (.int 8 t)
  gR : ∃ t, mg "RADIX" = some (.int ((radix : Nat) : Int) t)
/-- how add ends -/
def AddEnds (C CS CI CM : Addr) (H : Hp) (o : Own) (c : Cst) (s : Stp) (Q : VK) (E : XK) : Prop :=
  (c.steps.length = 12 → Raises CM "word" (.str "points") H E) ∧
  (c.steps.length < 12 → 8 < (c.unk ++ newUnk s).length → Raises CM "word" (.str "unknowns") H E) ∧
  (c.steps.length < 12 → (c.unk ++ newUnk s).length ≤ 8 → Fine3 (c.mk3 s) ∧ (((∀ v, evX v (c.mk3 s).w = 0) ∧ Raises CI "name" (.str s.nm) H E) ∨
    (NZ (c.mk3 s).w ∧ ∀ (G : Hp) (u : Addr), ConAt C G ⟨o.p, o.s, u, o.t⟩ (c.add s) → Chg [o.p, o.s, o.t] H G → H u = none → Q .non G)))
def spAdd (C CS CI CM : Addr) : Sp := fun vs H Q E => ∃ (o : Own) (c : Cst) (x : V), vs = [.ref o.p, x] ∧ ConAt C H o c ∧ Cok c ∧
  ((NoSeq x ∧ Raises CS "at" (.int 0) H E) ∨ ∃ us, SeqV H x us ∧ Pls H us ∧ us.length < 1000000 ∧ (∀ k, chkAt c.names us = some k → Raises CS "at" (.int ((k : Nat) : Int)) H E) ∧
    (chkAt c.names us = none → ∃ s, us = s.vals ∧ Right c.names s ∧ AddEnds C CS CI CM H o c s Q E))
section
variable {P : Program} {w : World} {K : PySem.W.Frag} {mg : Str → Option Value} {base : Heap} {C CS CI CM CR CF B fS fI fM fC fN fFI fK fMd : Addr} {dS dI dM dC dN dFI dK dMd : FuncData}
theorem scAdd : FnScope ["self", "step", "unknowns", "fields", "tables", "triple", "name"] ["self", "step"] (defScope sAdd) := ⟨rfl, rfl, rfl, by decide +kernel, rfl, by decide +kernel, by decide +kernel⟩
theorem ok_add {f : Addr} {fd : FuncData} (F : Fun K "add" "Construction.add" sAdd f fd) (T : KindTxt K mg) (CT : ConTxt K mg C) (AT : AddTxt K mg CR) (FT : FldTxt K mg CF) (MF : Mk K CF fFI)
    (TM : ErrT P w K mg base "TooMany" "word" B CM fM dM) (IM : ErrT P w K mg base "Impossible" "name" B CI fI dI)
    (UC : MethX P w K mg base C 4 "_checked" ["self", "step"] (spChk C CS) fC dC) (UN : CallT P w K mg base CX0 1 "new_unknowns" ["step"] spNewUnk fN dN) (UI : InitT P w K mg base 1 ["self", "names", "radix"] (spFInit K CF) fFI dFI)
    (UK : MethT P w K mg base CX0 CF 1 "key" ["self", "monomial"] (spKey1 CF) fK dK) (UM : CallT P w K mg base CX0 9 "made" ["ring", "step", "triples", "unknowns"] (spMade CR) fMd dMd) :
    FnOk P w K mg base (L2N.CX P w) 10 f fd ["self", "step"] (spAdd C CS CI CM) := by
  refine okN F scAdd (fun vs H Q E h => ?_) (fun cdv A outer s H vs Q E hr h => ?_)
  · obtain ⟨o, c, x, rfl, _⟩ := h
    rfl
  · obtain ⟨o, c, x, rfl, hc, ck, h⟩ := h
    obtain ⟨t12, g12⟩ := AT.g12
    obtain ⟨t8, g8⟩ := AT.g8
    obtain ⟨tR, gR⟩ := AT.gR
    have MR := AT.MR
    have gT := AT.gT
    refine ⟨_, (pss_cons (ps_set (i := 1) scAdd.nd rfl (Or.inl rfl) (pe_methE (pv 0) CT.cl UC.m UC.ok (hr.mono (by decide)) UC.b (fun σ => L2N.passAt (L2N.takes_of rfl rfl rfl rfl) σ) (pa_cons (pv 1) pa_nil)))
      (pss_cons (ps_if (pt_cmpR op_eq (pe_callB call_len_seq (by rfl) T.len PySem.boot_len (pa_cons (pe_fld (pv 0) rfl) pa_nil)) (pe_glob (v := .int 12) (by rfl) g12 ⟨t12, rfl⟩) (nomark _)) (pss_one (L2N.ps_raise rfl (L2N.takes_of rfl rfl rfl rfl) (pmk_err TM.err TM.iC TM.tI TM.ini (hr.mono (by decide)) TM.bd pass0 rfl TM.gC (pa_cons pe_str pa_nil)))) pss_nil)
      (pss_cons (ps_set (i := 2) scAdd.nd rfl (Or.inl rfl) (pe_op op_cat (pe_fld (pv 0) rfl) (pe_callTy call_list_of (by rfl) T.list (by decide +kernel) (pa_cons (pe_call UN.ok (hr.mono (by decide)) rfl UN.g UN.k UN.b .nil pass0 (pa_cons (pv 1) pa_nil)) pa_nil))))
      (pss_cons (ps_if (pt_cmpR op_gt (pe_callB call_len_seq (by rfl) T.len PySem.boot_len (pa_cons (pv 2) pa_nil)) (pe_glob (v := .int 8) (by rfl) g8 ⟨t8, rfl⟩) (nomark _)) (pss_one (L2N.ps_raise rfl (L2N.takes_of rfl rfl rfl rfl) (pmk_err TM.err TM.iC TM.tI TM.ini (hr.mono (by decide)) TM.bd pass0 rfl TM.gC (pa_cons pe_str pa_nil)))) pss_nil)
      (pss_cons (ps_set (i := 3) scAdd.nd rfl (Or.inr rfl) (pe_make MF UI.ok (hr.mono (by decide)) rfl FT.gC UI.b .nil pass0 (pa_cons (pv 2) (pa_cons (pe_glob (v := .int ((radix : Nat) : Int)) (by rfl) gR ⟨tR, rfl⟩) pa_nil))))
      (pss_cons (ps_setDc (i := 4) (own := [("name", 6)]) (g := (gName 6)) (tt := tYes) (tk := (tVar 6)) (tv := tDisp [((tMeth CF "key" (spKey1 CF) [] E0 (tVar 3) (tCons (tTup (tCons (tTup (tCons (tVar 6) (tCons (tC (.int 1)) tNil))) tNil)) tNil)), tC (.int 1))]) rfl scAdd.nd rfl rfl rfl (pi_list (pv 2)) (blkOk_by (own := [("name", 6)]) (N := ["self", "step", "unknowns", "fields", "tables", "triple", "name"]) (sc := defScope sAdd) (by decide +kernel)) (fun _ _ _ _ _ => (pg_name (i := 6) scAdd.nd rfl (Or.inl rfl))) (fun _ _ _ _ _ => pts_nil) (fun _ _ _ _ _ => (pv 6)) (fun _ _ _ _ _ => (pe_disp (pps_cons (pe_meth (pv 3) FT.cl UK.m UK.ok (hr.mono (by decide)) UK.b .nil pass0 (pa_cons (pe_tup (pa_cons (pe_tup (pa_cons (pv 6) (pa_cons pe_int pa_nil))) pa_nil)) pa_nil)) pe_int pps_nil) (by rfl) (by rfl) (by simp) (by decide))))
      (pss_cons (ps_set (i := 5) scAdd.nd rfl (Or.inl rfl) (pe_call UM.ok (hr.mono (by decide)) rfl UM.g UM.k UM.b .nil pass0 (pa_cons (pe_makeP MR rfl gT) (pa_cons (pv 1) (pa_cons (pe_fld (pv 0) rfl) (pa_cons (pv 4) pa_nil))))))
      (pss_cons (ps_if (pt_not (pt_truth (pe_ix ix_tup (pv 5) pe_int (fun _ _ => rfl)) (fun _ => rfl))) (pss_one (L2N.ps_raise rfl (L2N.takes_of rfl rfl rfl rfl) (pmk_err IM.err IM.iC IM.tI IM.ini (hr.mono (by decide)) IM.bd pass0 rfl IM.gC (pa_cons (pe_ix ix_seq (pv 1) pe_int (fun _ _ => rfl)) pa_nil)))) pss_nil)
      (pss_cons (ps_expr (pe_bm PySem.F.plainAttrs_list PySem.F.slot_list_append PySem.F.type_list_append mt_append (pe_fld (pv 0) rfl) (pa_cons (pv 1) pa_nil)))
      (pss_cons (ps_fld (pv 0) (pv 2) rfl)
      (pss_one (ps_dput (hu1 hr) (pe_fld (pv 0) rfl) (pe_ix ix_seq (pv 1) pe_int (fun _ _ => rfl)) (pv 5) rfl)))))))))))), ?_⟩
    obtain ⟨dx, hob⟩ := hc.ob
    have lm : (cF o).lookup ("_checked" : Str) = none := f_none (by decide +kernel) (by decide +kernel) (by decide +kernel)
    refine ⟨_, rfl, o.p, dx, _, rfl, hob, lm, _, rfl, o.p, dx, o.t, _, x, c.names, rfl, hob, f_tri, hc.namesD, ?_⟩
    rcases h with ⟨ns, rz⟩ | ⟨us, sq, pl, lu, bad, good⟩
    · exact .inl ⟨ns, rz⟩
    refine .inr ⟨us, sq, pl, lu, bad, fun e0 a G1 s1 ha => ?_⟩
    obtain ⟨s, rfl, rt, ends⟩ := good e0
    clear bad good e0 pl lu
    have hc1 := hc.up s1
    obtain ⟨dx1, hob1⟩ := hc1.ob
    obtain ⟨svs, hs1, hsp⟩ := hc1.st
    have lsv : svs.length = c.steps.length := Paired.length hsp
    have l12 := ck.len
    refine ⟨_, rfl, o.p, C, dx1, _, _, rfl, hob1, CT.cl, CT.nS, f_steps, o.s, svs, rfl, .inl (SqL.of hs1), rfl, _, rfl, ?_⟩
    obtain ⟨e12, e8, eok⟩ := ends
    by_cases h12 : c.steps.length = 12
    · refine ifY (decide_eq_true (by rw [lsv, h12]; rfl)) ?_
      exact err_fin TM (.str _ (by decide +kernel)) ((e12 h12).up s1)
    refine ifN (decide_eq_false (fun q => h12 (by rw [lsv] at q; have := V.int.inj q; omega))) ?_
    have lt12 : c.steps.length < 12 := by omega
    have nl4 := nm_len rt.nm
    refine ⟨_, rfl, o.p, C, dx1, _, _, rfl, hob1, CT.cl, CT.nU, f_unk, _, rfl, .ref a, s, rfl, by omega, ⟨a, rfl, .inr ha⟩, fun p2 G2 s2 hp2 => ?_⟩
    have h2 := s1.trans s2
    refine ⟨p2, _, rfl, .inr (SqT.of hp2), fun l3 n3 => ?_⟩
    have s3 := same_new (o := .lst ((newUnk s).map V.str)) n3
    have hl3 : upd G2 l3 (.lst ((newUnk s).map V.str)) l3 = some (.lst ((newUnk s).map V.str)) := upd_same
    generalize upd G2 l3 (.lst ((newUnk s).map V.str)) = G3 at s3 hl3
    have h3 := h2.trans s3
    have nul := newUnk_len s
    have ar := ar2 s.w
    have ul := ck.ul
    refine ⟨o.u, l3, _, _, rfl, rfl, h3 _ _ hc.un, hl3, by rw [List.length_map, List.length_map, sizeLine_eq]; omega, fun l4 n4 => ?_⟩
    have s4 := same_new (o := .lst (c.unk.map V.str ++ (newUnk s).map V.str)) n4
    have hl4 : upd G3 l4 (.lst (c.unk.map V.str ++ (newUnk s).map V.str)) l4 = some (.lst ((c.unk ++ newUnk s).map V.str)) := by rw [upd_same, List.map_append]
    have f4 : H l4 = none := by
      cases q : H l4 with
      | none => rfl
      | some x => rw [h3 _ _ q] at n4; cases n4
    generalize upd G3 l4 (.lst (c.unk.map V.str ++ (newUnk s).map V.str)) = G4 at s4 hl4
    have h4 := h3.trans s4
    refine ⟨_, rfl, l4, _, rfl, .inl (SqL.of hl4), _, _, rfl, rfl, _, rfl, ?_⟩
    rw [List.length_map]
    by_cases h8 : 8 < (c.unk ++ newUnk s).length
    · refine ifY (decide_eq_true (by omega)) ?_
      exact err_fin TM (.str _ (by decide +kernel)) ((e8 lt12 h8).up h4)
    refine ifN (decide_eq_false (by omega)) ?_
    obtain ⟨fi, out⟩ := eok lt12 (by omega)
    clear e12 e8 eok
    refine ⟨_, rfl, fun x5 d5 nx5 nd5 ne5 => ?_⟩
    have q5 : upd (upd G4 d5 (.own x5)) x5 (.ins CF d5 []) x5 = some (.ins CF d5 []) := upd_same
    have s5 : Same G4 (upd (upd G4 d5 (.own x5)) x5 (.ins CF d5 [])) := fun b z q => (upd_ne (ne_of_none q nx5)).trans ((upd_ne (ne_of_none q nd5)).trans q)
    generalize upd (upd G4 d5 (.own x5)) x5 (.ins CF d5 []) = G5 at q5 s5
    refine ⟨x5, d5, l4, c.unk ++ newUnk s, radix, 15, rfl, q5, SqL.of (s5 _ _ hl4), ck.unkNew rt, by omega, by decide, by decide, by decide, fun G6 fa k6 => ⟨rfl, ?_⟩⟩
    have s6 : Same G4 G6 := fun b z q => k6 _ _ (s5 _ _ q) (ne_of_none q nx5)
    have h6 := h4.trans s6
    have hl6 := s6 _ _ hl4
    refine ⟨_, rfl, l4, rfl, ⟨_, SqL.of hl6⟩, fun D nD => ?_⟩
    have w0 := walk_list (K := K) (a := l4) (xs := (c.unk ++ newUnk s).map V.str)
    have und := ck.unkNew rt
    generalize hus : c.unk ++ newUnk s = us at w0 hl6 und fa h8
    refine blk_n (o := fun D => .dK []) (n := (us.map V.str).length) (fun (i : Nat) (F : Hp) => Same G6 F ∧ ∃ kvs : List (Key × V), F D = some (.dK kvs) ∧ kvs.map (·.1) = (us.take i).map eS ∧ ∀ (j : Nat) x, (us.take i)[j]? = some x → ∃ v, valV kvs (eS x) = some v ∧ TabE F v (.var j))
      ⟨same_new nD, [], upd_same, rfl, fun j x h => by simp at h⟩ (fun i F hi ⟨s, _⟩ => w0.goes i F hi (SqL.of (s _ _ hl6))) (fun F ⟨s, _⟩ => w0.stops F (SqL.of (s _ _ hl6))) (fun i F y F' hi ⟨s7, kvs, hD, hk, hv⟩ hy => ?_) (fun F ⟨s7, kvs, hD, hk, hv⟩ => ?_)
    · obtain ⟨e, hx⟩ := w0.yields i F y F' hi (SqL.of (s7 _ _ hl6)) hy
      subst e
      have hx : (us.map V.str)[i]? = some y := hx
      rw [List.getElem?_map] at hx
      obtain ⟨nm, hnm, rfl⟩ := Option.map_eq_some_iff.mp hx
      have il : i < us.length := (List.getElem?_eq_some_iff.mp hnm).1
      have fa7 := fa.up s7
      obtain ⟨⟨dx7, k1, k2, k3, hfa, _⟩, _⟩ := fa7
      have new : (eS nm) ∉ kvs.map (·.1) := fun m => by
        rw [hk] at m
        obtain ⟨z, mz, ez⟩ := List.mem_map.mp m
        have := eS_inj _ _ ez
        subst this
        obtain ⟨j, hj⟩ := List.mem_iff_getElem?.mp mz
        rw [List.getElem?_take] at hj
        split at hj
        · rename_i lj
          have := (List.getElem?_inj (List.getElem?_eq_some_iff.mp hj).1 und).mp (hj.trans hnm.symm)
          omega
        · cases hj
      have kl : kvs.length ≤ us.length := by
        have := congrArg List.length hk
        rw [List.length_map, List.length_map, List.length_take] at this
        omega
      refine ⟨rfl, _, rfl, fun d nd => ⟨_, rfl, x5, dx7, _, rfl, same_new nd _ _ hfa, fF_key, _, rfl, by show 2 ≤ sizeLine; decide, fun b nb => ⟨by show 1 ≤ sizeLine; decide, fun a2 na => ?_⟩⟩⟩
      have hb := same_new (o := .tup [.ref b]) na _ _ (show upd (upd F' d (.dK [])) b (.tup [.str nm, .int 1]) b = some (.tup [.str nm, .int 1]) from upd_same)
      have ha2 : upd (upd (upd F' d (.dK [])) b (.tup [.str nm, .int 1])) a2 (.tup [.ref b]) a2 = some (.tup [.ref b]) := upd_same
      have s8 := ((same_new (o := .dK []) nd).trans (same_new (o := .tup [.str nm, .int 1]) nb)).trans (same_new (o := .tup [.ref b]) na)
      have hd8 := ((same_new (o := .tup [.str nm, .int 1]) nb).trans (same_new (o := .tup [.ref b]) na)) _ _ (show upd F' d (.dK []) d = some (.dK []) from upd_same)
      generalize upd (upd (upd F' d (.dK [])) b (.tup [.str nm, .int 1])) a2 (.tup [.ref b]) = F8 at hb ha2 s8 hd8
      refine ⟨x5, a2, b, us, radix, i, nm, rfl, fa.up (s7.trans s8), ha2, hb, hnm, fun F9 s9 => ?_⟩
      have hd9 := s9 _ _ hd8
      refine ⟨hd9, [(eI ((radix ^ i : Nat) : Int), .int 1)], rfl, (show 1 ≤ 15 by decide), ?_⟩
      have nD2 : d ≠ D := fun z => by rw [z, hD] at nd; cases nd
      have em : mergeK [] [(eI ((radix ^ i : Nat) : Int), V.int 1)] = mpT eI [(((radix ^ i : Nat) : Int), 1)] := rfl
      rw [em]
      have sFd : Same F' (upd F9 d (.dK (mpT eI [(((radix ^ i : Nat) : Int), 1)]))) := fun z q e => (upd_ne (ne_of_none e nd)).trans (s9 _ _ (s8 _ _ e))
      have hd10 : upd F9 d (.dK (mpT eI [(((radix ^ i : Nat) : Int), 1)])) d = some (.dK (mpT eI [(((radix ^ i : Nat) : Int), 1)])) := upd_same
      generalize upd F9 d (.dK (mpT eI [(((radix ^ i : Nat) : Int), 1)])) = F10 at sFd hd10
      refine ⟨kvs, eS nm, rfl, sFd _ _ hD, by rw [sizeLine_eq]; omega, fun z q e => (upd_ne (ne_of_none e nD)).trans (sFd _ _ (s7 _ _ e)), putK kvs (eS nm) (.ref d), upd_same, ?_, fun j x2 hj => ?_⟩
      · rw [putK_new _ (valV_not new), List.map_append, hk, K2P.take_snoc hnm, List.map_append]
        rfl
      · rw [K2P.take_snoc hnm] at hj
        rw [valV_put]
        by_cases e : eS x2 = eS nm
        · rw [if_pos e]
          have := eS_inj _ _ e
          subst this
          have ji : j = i := by
            by_cases lj : j < (us.take i).length
            · rw [List.getElem?_append_left lj, List.getElem?_take] at hj
              split at hj
              · have := (List.getElem?_inj (List.getElem?_eq_some_iff.mp hj).1 und).mp (hj.trans hnm.symm)
                omega
              · cases hj
            · rw [List.getElem?_append_right (by omega)] at hj
              have := (List.getElem?_eq_some_iff.mp hj).1
              rw [List.length_take] at lj this
              simp at this
              omega
          subst ji
          exact ⟨_, rfl, d, _, rfl, ⟨(upd_ne nD2).trans hd10, nd_one _⟩, rep_var j⟩
        · rw [if_neg e]
          have lj : j < (us.take i).length := Classical.byContradiction fun lj => by
            rw [List.getElem?_append_right (by omega)] at hj
            have m := List.mem_of_getElem? hj
            exact e (by rw [List.mem_singleton.mp m])
          rw [List.getElem?_append_left lj] at hj
          obtain ⟨v2, a3, b3⟩ := hv j x2 hj
          refine ⟨v2, a3, ?_⟩
          obtain ⟨d3, T3, e3, ⟨h31, h32⟩, r3⟩ := b3.up sFd
          refine ⟨d3, T3, e3, ⟨(upd_ne fun z => ?_).trans h31, h32⟩, r3⟩
          rw [z, sFd _ _ hD] at h31
          cases h31
          have m : eS x2 ∈ (mpT eI T3).map (·.1) := by
            rw [hk]
            exact List.mem_map.mpr ⟨x2, List.mem_of_getElem? hj, rfl⟩
          obtain ⟨q, mq, eq⟩ := List.mem_map.mp m
          obtain ⟨q2, _, eq2⟩ := List.mem_map.mp mq
          rw [← eq2] at eq
          cases eq
    · rw [List.length_map, List.take_length] at hk hv
      have h7 := h6.trans s7
      refine fun x8 d8 nx8 nd8 ne8 => ?_
      have q8 : upd (upd F d8 (.own x8)) x8 (.ins CR d8 []) x8 = some (.ins CR d8 []) := upd_same
      have s8 : Same F (upd (upd F d8 (.own x8)) x8 (.ins CR d8 [])) := fun b z q => (upd_ne (ne_of_none q nx8)).trans ((upd_ne (ne_of_none q nd8)).trans q)
      generalize upd (upd F d8 (.own x8)) x8 (.ins CR d8 []) = G8 at q8 s8
      have h8' := h7.trans s8
      have hc8 := hc.up h8'
      obtain ⟨dx8, hob8⟩ := hc8.ob
      have unkD : UnkD G8 D (c.unk ++ newUnk s) := by
        rw [hus]
        exact ⟨kvs, s8 _ _ hD, fun j x e => (hv j x e).elim fun v ⟨a, b⟩ => ⟨v, a, b.up s8⟩⟩
      refine ⟨_, rfl, _, rfl, o.p, C, dx8, _, _, rfl, hob8, CT.cl, CT.nT, f_tri, _, rfl, .ref x8, a, o.t, D, s, c.pt, c.unk, rfl, rt.shp, by omega, ⟨x8, d8, rfl, q8⟩, ((s2.trans s3).trans (s4.trans (s6.trans (s7.trans s8)))) _ _ ha, hc8.trisD, fun x m => pt_some (rt.el x m), unkD, fi, fun v G9 s9 tv => ?_⟩
      have h9 := h8'.trans s9
      have tv : TripE G9 v (c.mk3 s) := tv
      have hc9 := hc.up h9
      obtain ⟨tt, u0, u1, u2, rfl, ht, tu0, tu1, tu2⟩ := tv
      have tv9 : TripE G9 (.ref tt) (c.mk3 s) := ⟨tt, u0, u1, u2, rfl, ht, tu0, tu1, tu2⟩
      obtain ⟨dw, Tw, rfl, ⟨hw1, hw2⟩, rw_⟩ := tu2
      refine ⟨_, rfl, tt, _, _, .ref dw, rfl, rfl, SqT.of ht, (show atI _ ((2 : Nat) : Int) = some _ from atI_nat rfl), _, .inr (.inr ⟨_, hw1, rfl⟩), ?_⟩
      rcases out with ⟨zero, rz⟩ | ⟨nz, go⟩
      · have := rw_.empty zero
        subst this
        refine ifY rfl ⟨_, rfl, SeqV.ix (k := 1) ⟨a, rfl, .inr ((s2.trans (s3.trans (s4.trans (s6.trans (s7.trans (s8.trans s9)))))) _ _ ha)⟩ rfl ?_⟩
        exact err_fin IM (.str _ (by omega)) (rz.up h9)
      have tne := nz _ rw_
      refine ifN (by cases Tw with | nil => exact absurd rfl tne | cons _ _ => rfl) ?_
      have ha9 := (s2.trans (s3.trans (s4.trans (s6.trans (s7.trans (s8.trans s9)))))) _ _ ha
      have hl9 := ((s6.trans (s7.trans (s8.trans s9)))) _ _ hl4
      have hob9 := h9 _ _ hob
      have hs9 := (s2.trans (s3.trans (s4.trans (s6.trans (s7.trans (s8.trans s9)))))) _ _ hs1
      obtain ⟨tkvs, ht9, htr9⟩ := hc9.tr
      have hsp9 := pair_imp (fun _ _ q => StepAt.up q (s2.trans (s3.trans (s4.trans (s6.trans (s7.trans (s8.trans s9))))))) hsp
      have lp : l4 ≠ o.p := fun z => by rw [z, hob] at f4; cases f4
      have ls : l4 ≠ o.s := fun z => by
        obtain ⟨q1, q2, _⟩ := hc.st
        rw [z, q2] at f4; cases f4
      have lt : l4 ≠ o.t := fun z => by
        obtain ⟨q1, q2, _⟩ := hc.tr
        rw [z, q2] at f4; cases f4
      obtain ⟨fin, cg⟩ := add_heap hc9 ck rt ha9 tv9 hl9 lp ls lt hob9 hs9 hsp9 ht9 htr9
      have ps : o.p ≠ o.s := fun z => by rw [z, hs9] at hob9; cases hob9
      have pt : o.p ≠ o.t := fun z => by rw [z, ht9] at hob9; cases hob9
      have st : o.s ≠ o.t := fun z => by rw [z, ht9] at hs9; cases hs9
      have as_ : a ≠ o.s := fun z => by rw [z, hs9] at ha9; cases ha9
      have ap : a ≠ o.p := fun z => by rw [z, hob9] at ha9; cases ha9
      have tl := Paired.length htr9
      have tl2 := ck.triLen
      refine ⟨_, rfl, o.p, C, dx, _, _, rfl, hob9, CT.cl, CT.nS, f_steps, .inl ⟨rfl, svs, SqL.of hs9⟩, _, rfl, o.s, svs, _, rfl, rfl, hs9, by rw [lsv, sizeLine_eq]; omega, ?_⟩
      refine ⟨_, rfl, _, rfl, o.p, C, dx, _, rfl, (upd_ne ps).trans hob9, CT.cl, CT.nU, (by show 3 < 1000; decide), ?_⟩
      rw [put_unk]
      refine ⟨_, rfl, _, rfl, o.p, C, dx, _, _, rfl, upd_same, CT.cl, CT.nT, f_tri, _, rfl, SeqV.ix (k := 1) ⟨a, rfl, .inr ((upd_ne ap).trans ((upd_ne as_).trans ha9))⟩ rfl ?_⟩
      refine ⟨o.t, _, rfl, DPut.k (k := eS s.nm) ((upd_ne (Ne.symm pt)).trans ((upd_ne (Ne.symm st)).trans ht9)) (by rw [sizeLine_eq]; omega), ?_⟩
      exact go _ l4 fin (fun b x q m => cg b x (h9 _ _ q) m) f4
end
end CN

set_option Elab.async false
set_option linter.all false
set_option maxRecDepth 100000
set_option maxHeartbeats 4000000
set_option autoImplicit false
/-! A list or a tuple, whichever. Speaks of no program. -/
namespace CN
open PySem L2
/-- a list (b) or a tuple -/
def SqB (b : Bool) (K : PySem.W.Frag) (H : Hp) (a : Addr) (xs : List V) : Prop := if b = true then SqL K H a xs else SqT K H a xs
def ItB (b : Bool) (K : PySem.W.Frag) (a : Addr) : It := if b = true then Itl K a else Itt K a
def iSeqB (b : Bool) (K : PySem.W.Frag) (te : TE) : TI := if b = true then iList K te else iTup K te
theorem pi_seqB {X : Cx} {tg l : Expr} {te : TE} (b : Bool) (hl : PE X l te) : PI X tg l (iSeqB b X.K te) := by
  cases b
  · exact pi_tup hl
  · exact pi_list hl
theorem walk_seqB {K : PySem.W.Frag} {a : Addr} {xs : List V} (b : Bool) : Walk (ItB b K a) xs.length (fun H => SqB b K H a xs) (YAt xs) := by
  cases b
  · exact walk_tup
  · exact walk_list
theorem seqB_go {b : Bool} {K : PySem.W.Frag} {i : Nat} {σ : St} {H : Hp} {R : It → Hp → Prop} {a : Addr} {xs : List V} (hs : σ[i]? = some (some (.ref a))) (h : SqB b K H a xs) (r : R (ItB b K a) H) : iSeqB b K (tVar i) σ H R := by
  cases b
  · exact ⟨_, hs, a, rfl, ⟨xs, h⟩, r⟩
  · exact ⟨_, hs, a, rfl, ⟨xs, h⟩, r⟩
theorem SeqV.sqB {K : PySem.W.Frag} {H : Hp} {v : V} {us : List V} (h : SeqV H v us) : ∃ (a : Addr) (b : Bool), v = .ref a ∧ (∀ G, Same H G → SqB b K G a us) ∧ ∀ D G, Chg D H G → a ∉ D → SqB b K G a us := by
  obtain ⟨a, e, h⟩ := h
  rcases h with h | h
  · exact ⟨a, true, e, fun G s => SqL.of (s _ _ h), fun D G c n => SqL.of (c _ _ h n)⟩
  · exact ⟨a, false, e, fun G s => SqT.of (s _ _ h), fun D G c n => SqT.of (c _ _ h n)⟩
end CN

set_option Elab.async false
set_option linter.all false
set_option maxRecDepth 100000
set_option maxHeartbeats 4000000
set_option autoImplicit false
set_option pp.maxSteps 300
/-! Displays of steps: lists of tuples. Speaks of no program. -/
namespace CN
open PySem L2 K1D K2P
/-- it comes to v and changes nothing -/
def Pure (σ : L2.St) (t : TE) (v : V) : Prop := ∀ (G : Hp) (Q : VK), Q v G → t σ G Q
theorem pure_c {σ : L2.St} {v : V} : Pure σ (tC v) v := fun _ _ q => q
theorem pure_v {σ : L2.St} {i : Nat} {v : V} (h : σ[i]? = some (some v)) : Pure σ (tVar i) v := fun _ _ q => ⟨_, h, q⟩
theorem pure_neg {σ : L2.St} {t : TE} {k : Int} (h : Pure σ t (.int k)) : Pure σ (tUn (rU fun i => .int (-i)) t) (.int (-k)) := fun G Q q => h G _ ⟨k, rfl, q⟩
def mkA : List TE → TA
  | [] => tNil
  | t :: ts => tCons t (mkA ts)
theorem args_pure {σ : L2.St} : ∀ {ts : List TE} {vs : List V}, Paired (Pure σ) ts vs → ∀ {H : Hp} {Q : List V → Hp → Prop}, Q vs H → mkA ts σ H Q
  | _, _, .nil, H, Q, q => q
  | _, _, .cons p r, H, Q, q => p H _ (args_pure r q)
theorem tup_pure {σ : L2.St} {ts : List TE} {vs : List V} {H : Hp} {Q : VK} (h : Paired (Pure σ) ts vs) (l : vs.length ≤ 1000) (go : ∀ p, H p = none → Q (.ref p) (upd H p (.tup vs))) : tTup (mkA ts) σ H Q :=
  args_pure h (Q := fun vs H1 => vs.length ≤ sizeLine ∧ ∀ p, H1 p = none → Q (.ref p) (upd H1 p (.tup vs))) ⟨by rw [sizeLine_eq]; omega, go⟩
/-- tuples of steps, one after another -/
theorem steps_args {σ : L2.St} : ∀ {tss : List (List TE)} {ss : List Stp}, Paired (fun ts (s : Stp) => Paired (Pure σ) ts s.vals ∧ s.vals.length ≤ 1000) tss ss → ∀ {H : Hp} {Q : List V → Hp → Prop},
    (∀ G us, Same H G → Paired (StepAt G) us ss → Q us G) → mkA (tss.map fun ts => tTup (mkA ts)) σ H Q
  | _, _, .nil, H, Q, go => go H [] (Same.refl H) .nil
  | ts :: tss, s :: ss, .cons p r, H, Q, go => by
    show tCons (tTup (mkA ts)) (mkA (tss.map fun ts => tTup (mkA ts))) σ H Q
    refine tup_pure p.1 p.2 fun a na => ?_
    refine steps_args r fun G us sG h => ?_
    exact go G (.ref a :: us) ((same_new na).trans sG) (.cons ⟨a, rfl, sG _ _ upd_same⟩ h)
theorem steps_lst {σ : L2.St} {tss : List (List TE)} {ss : List Stp} {H : Hp} {Q : VK} (h : Paired (fun ts (s : Stp) => Paired (Pure σ) ts s.vals ∧ s.vals.length ≤ 1000) tss ss) (l : ss.length ≤ 1000)
    (go : ∀ G D us, Same H G → H D = none → G D = some (.lst us) → Paired (StepAt G) us ss → Q (.ref D) G) : tLst (mkA (tss.map fun ts => tTup (mkA ts))) σ H Q := by
  refine steps_args h (Q := fun vs H1 => vs.length ≤ sizeLine ∧ ∀ p, H1 p = none → Q (.ref p) (upd H1 p (.lst vs))) fun G us sG hu => ⟨?_, fun D nD => ?_⟩
  · rw [Paired.length hu, sizeLine_eq]; omega
  · refine go _ D us (sG.trans (same_new nD)) ?_ upd_same (pair_imp (fun _ _ q => q.up (same_new nD)) hu)
    cases q : H D with
    | none => rfl
    | some x => rw [sG _ _ q] at nD; cases nD
theorem pair_app {α β : Type} {F : α → β → Prop} : ∀ {l1 : List α} {m1 : List β} {l2 : List α} {m2 : List β}, Paired F l1 m1 → Paired F l2 m2 → Paired F (l1 ++ l2) (m1 ++ m2)
  | _, _, _, _, .nil, h => h
  | _, _, _, _, .cons a r, h => .cons a (pair_app r h)
/-- found + [..] -/
theorem steps_cat {σ : L2.St} {i : Nat} {D : Addr} {us : List V} {ss0 : List Stp} {tss : List (List TE)} {ss : List Stp} {H : Hp} {Q : VK} (hs : σ[i]? = some (some (.ref D))) (hD : H D = some (.lst us)) (hu : Paired (StepAt H) us ss0) (h : Paired (fun ts (s : Stp) => Paired (Pure σ) ts s.vals ∧ s.vals.length ≤ 1000) tss ss) (l : ss0.length + ss.length ≤ 1000)
    (go : ∀ G D2 us2, Same H G → H D2 = none → G D2 = some (.lst us2) → Paired (StepAt G) us2 (ss0 ++ ss) → Q (.ref D2) G) : tOp rCat (tVar i) (tLst (mkA (tss.map fun ts => tTup (mkA ts)))) σ H Q := by
  refine ⟨_, hs, ?_⟩
  refine steps_lst h (by omega) fun G D1 us1 sG nD1 hD1 hu1 => ?_
  refine ⟨D, D1, us, us1, rfl, rfl, sG _ _ hD, hD1, ?_, fun D2 nD2 => ?_⟩
  · rw [Paired.length hu, Paired.length hu1, sizeLine_eq]; omega
  · refine go _ D2 (us ++ us1) (sG.trans (same_new nD2)) ?_ upd_same (pair_imp (fun _ _ q => q.up (same_new nD2)) (pair_app (pair_imp (fun _ _ q => q.up sG) hu) hu1))
    cases q : H D2 with
    | none => rfl
    | some x => rw [sG _ _ q] at nD2; cases nD2
/-- found.append(..) -/
theorem steps_app {K : PySem.W.Frag} {σ : L2.St} {i : Nat} {D : Addr} {us : List V} {ss0 : List Stp} {ts : List TE} {s : Stp} {H : Hp} {Q : VK} (hs : σ[i]? = some (some (.ref D))) (hD : H D = some (.lst us)) (hu : Paired (StepAt H) us ss0) (h : Paired (Pure σ) ts s.vals) (l1 : s.vals.length ≤ 1000) (l : ss0.length ≤ 1000)
    (go : ∀ G us2, (∀ b o, H b = some o → b ≠ D → G b = some o) → G D = some (.lst us2) → Paired (StepAt G) us2 (ss0 ++ [s]) → Q .non G) : tBM K "list" rAppend (tVar i) (tCons (tTup (mkA ts)) tNil) σ H Q := by
  refine ⟨_, hs, .inl ⟨rfl, us, SqL.of hD⟩, ?_⟩
  refine tup_pure h l1 fun t nt => ?_
  have hD2 := same_new (o := .tup s.vals) nt _ _ hD
  have tD : t ≠ D := fun z => by rw [z, hD] at nt; cases nt
  refine ⟨D, us, _, rfl, rfl, hD2, by rw [Paired.length hu, sizeLine_eq]; omega, ?_⟩
  refine go _ (us ++ [.ref t]) (fun b o q ne => (upd_ne ne).trans (same_new nt _ _ q)) upd_same (pair_snoc ⟨t, rfl, (upd_ne tD).trans upd_same⟩ (pair_imp (fun x y q => ?_) hu))
  obtain ⟨a, e, q⟩ := q
  have aD : a ≠ D := fun z => by rw [z, hD] at q; cases q
  exact ⟨a, e, (upd_ne aD).trans (same_new nt _ _ q)⟩
theorem none_up {H G : Hp} {b : Addr} (s : Same H G) (n : G b = none) : H b = none := by
  cases q : H b with
  | none => rfl
  | some x => rw [s _ _ q] at n; cases n
theorem cut_six (x0 x1 x2 x3 x4 x5 : V) (r : List V) : cutV (x0 :: x1 :: x2 :: x3 :: x4 :: x5 :: r) none (some 6) = [x0, x1, x2, x3, x4, x5] := by
  unfold cutV
  rw [show HT.sIx (x0 :: x1 :: x2 :: x3 :: x4 :: x5 :: r).length (x0 :: x1 :: x2 :: x3 :: x4 :: x5 :: r).length (some 6) = min 6 (x0 :: x1 :: x2 :: x3 :: x4 :: x5 :: r).length from HT.sIx_nat _ _ 6, HT.sIx_none, Nat.min_eq_left (by simp only [List.length_cons]; omega)]
  rfl
/-! the same as statements -/
section
variable {K : PySem.W.Frag} {σ : L2.St} {i : Nat} {D : Addr} {us : List V} {ss0 ss : List Stp} {s : Stp} {ts : List TE} {tss : List (List TE)} {H : Hp} {E : Ends} {rest : TS}
theorem st_re {T : TS} {σ2 : L2.St} (e : σ = σ2) (h : T E σ2 H) : T E σ H := by
  rw [e]
  exact h
def tStp (ts : List TE) : TE := tTup (mkA ts)
theorem st_slst (h : Paired (fun ts (s : Stp) => Paired (Pure σ) ts s.vals ∧ s.vals.length ≤ 1000) tss ss) (l : ss.length ≤ 1000) (go : ∀ G D us, Same H G → H D = none → G D = some (.lst us) → Paired (StepAt G) us ss → rest E (σ.set i (some (.ref D))) G) :
    (tSeq (tAsg (tLst (mkA (tss.map tStp))) (gName i)) rest) E σ H := steps_lst (Q := fun x H1 => rest E (σ.set i (some x)) H1) h l go
theorem st_scat (hs : σ[i]? = some (some (.ref D))) (hD : H D = some (.lst us)) (hu : Paired (StepAt H) us ss0) (h : Paired (fun ts (s : Stp) => Paired (Pure σ) ts s.vals ∧ s.vals.length ≤ 1000) tss ss) (l : ss0.length + ss.length ≤ 1000)
    (go : ∀ G D2 us2, Same H G → H D2 = none → G D2 = some (.lst us2) → Paired (StepAt G) us2 (ss0 ++ ss) → rest E (σ.set i (some (.ref D2))) G) : (tSeq (tAsg (tOp rCat (tVar i) (tLst (mkA (tss.map tStp)))) (gName i)) rest) E σ H := steps_cat (Q := fun x H1 => rest E (σ.set i (some x)) H1) hs hD hu h l go
theorem st_scatr (hs : σ[i]? = some (some (.ref D))) (hD : H D = some (.lst us)) (hu : Paired (StepAt H) us ss0) (h : Paired (fun ts (s : Stp) => Paired (Pure σ) ts s.vals ∧ s.vals.length ≤ 1000) tss ss) (l : ss0.length + ss.length ≤ 1000)
    (go : ∀ G D2 us2, Same H G → H D2 = none → G D2 = some (.lst us2) → Paired (StepAt G) us2 (ss0 ++ ss) → E.rt (.ref D2) G) : (tRet (tOp rCat (tVar i) (tLst (mkA (tss.map tStp))))) E σ H := steps_cat (Q := E.rt) hs hD hu h l go
theorem st_sapp (hs : σ[i]? = some (some (.ref D))) (hD : H D = some (.lst us)) (hu : Paired (StepAt H) us ss0) (h : Paired (Pure σ) ts s.vals) (l1 : s.vals.length ≤ 1000) (l : ss0.length ≤ 1000)
    (go : ∀ G us2, (∀ b o, H b = some o → b ≠ D → G b = some o) → G D = some (.lst us2) → Paired (StepAt G) us2 (ss0 ++ [s]) → rest E σ G) : (tSeq (tDrop (tBM K "list" rAppend (tVar i) (tCons (tStp ts) tNil))) rest) E σ H := steps_app (Q := fun _ H1 => rest E σ H1) hs hD hu h l1 l go
end
end CN

set_option Elab.async false
set_option linter.all false
set_option maxRecDepth 100000
set_option maxHeartbeats 4000000
set_option autoImplicit false
set_option pp.maxSteps 300
/-! Construction: steps, points, unknowns, copy; built. -/
namespace CN
open PySem L2 K1D K2P
open K4 (isNm)
abbrev sSteps : Stmt := inClass (K2P.top 60) 3
abbrev sPoints : Stmt := inClass (K2P.top 60) 4
abbrev sUnks : Stmt := inClass (K2P.top 60) 5
abbrev sCopy : Stmt := inClass (K2P.top 60) 9
def spSteps (C : Addr) : Sp := fun vs H Q _ => ∃ (o : Own) (c : Cst), vs = [.ref o.p] ∧ ConAt C H o c ∧ ∀ (p : Addr) (svs : List V) (G : Hp), Same H G → H p = none → G p = some (.tup svs) → Paired (StepAt G) svs c.steps → Q (.ref p) G
def spPoints (C : Addr) : Sp := fun vs H Q _ => ∃ (o : Own) (c : Cst), vs = [.ref o.p] ∧ ConAt C H o c ∧ ∀ (p : Addr) (G : Hp), Same H G → H p = none → G p = some (.tup (c.names.map V.str)) → Q (.ref p) G
def spUnks (C : Addr) : Sp := fun vs H Q _ => ∃ (o : Own) (c : Cst), vs = [.ref o.p] ∧ ConAt C H o c ∧ ∀ (p : Addr) (G : Hp), Same H G → H p = none → G p = some (.tup (c.unk.map V.str)) → Q (.ref p) G
/-- all its addresses are new -/
structure Own.New (o : Own) (H : Hp) : Prop where
  p : H o.p = none
  s : H o.s = none
  u : H o.u = none
  t : H o.t = none
def spCopy (C : Addr) : Sp := fun vs H Q _ => ∃ (o : Own) (c : Cst), vs = [.ref o.p] ∧ ConAt C H o c ∧ ∀ (o2 : Own) (G : Hp), Same H G → o2.New H → ConAt C G o2 c → Q (.ref o2.p) G
/-- how one step is taken, or not -/
def AddOut (CS CI CM : Addr) (H : Hp) (E : XK) (c : Cst) (x : V) (K : Cst → Prop) : Prop :=
  (NoSeq x ∧ Raises CS "at" (.int 0) H E) ∨ ∃ us, SeqV H x us ∧ Pls H us ∧ us.length < 1000000 ∧ (∀ k, chkAt c.names us = some k → Raises CS "at" (.int ((k : Nat) : Int)) H E) ∧
    (chkAt c.names us = none → ∃ s, us = s.vals ∧ Right c.names s ∧ (c.steps.length = 12 → Raises CM "word" (.str "points") H E) ∧
      (c.steps.length < 12 → 8 < (c.unk ++ newUnk s).length → Raises CM "word" (.str "unknowns") H E) ∧
      (c.steps.length < 12 → (c.unk ++ newUnk s).length ≤ 8 → Fine3 (c.mk3 s) ∧ (((∀ v, evX v (c.mk3 s).w = 0) ∧ Raises CI "name" (.str s.nm) H E) ∨ (NZ (c.mk3 s).w ∧ K (c.add s)))))
def BldOut (CS CI CM : Addr) (H : Hp) (E : XK) (K : Cst → Prop) : Cst → List V → Prop
  | c, [] => K c
  | c, x :: xs => AddOut CS CI CM H E c x fun c' => BldOut CS CI CM H E K c' xs
def spBuilt (C CS CI CM CV : Addr) : Sp := fun vs H Q E => ∃ x : V, vs = [x] ∧ ((NoSeq x ∧ Raises CV "at" (.int 0) H E) ∨ ∃ xs, SeqV H x xs ∧
  BldOut CS CI CM H E (fun c => ∀ (o : Own) (G : Hp), ConAt C G o c → Cok c → Same H G → o.New H → Q (.ref o.p) G) Cst.new xs)
theorem AddOut.sp {C CS CI CM : Addr} {H G : Hp} {E : XK} {o : Own} {c : Cst} {x : V} {K : Cst → Prop} {Q : VK} (s : Same H G) (hc : ConAt C G o c) (ck : Cok c) (h : AddOut CS CI CM H E c x K) (go : ∀ (st : Stp), Cok (c.add st) → K (c.add st) → ∀ (F : Hp) (u : Addr), ConAt C F ⟨o.p, o.s, u, o.t⟩ (c.add st) → Chg [o.p, o.s, o.t] G F → G u = none → Q .non F) :
    spAdd C CS CI CM [.ref o.p, x] G Q E := by
  refine ⟨o, c, x, rfl, hc, ck, ?_⟩
  rcases h with ⟨ns, r⟩ | ⟨us, sq, pl, lu, bad, good⟩
  · exact .inl ⟨ns, r.up s⟩
  · refine .inr ⟨us, sq.up s, pl.up s, lu, fun k e => (bad k e).up s, fun e => ?_⟩
    obtain ⟨st, rfl, rt, r1, r2, r3⟩ := good e
    refine ⟨st, rfl, rt, fun e => (r1 e).up s, fun a b => (r2 a b).up s, fun a b => ?_⟩
    obtain ⟨fi, out⟩ := r3 a b
    refine ⟨fi, ?_⟩
    rcases out with ⟨z, r⟩ | ⟨nz, k⟩
    · exact .inl ⟨z, r.up s⟩
    · exact .inr ⟨nz, fun F u c1 cg nu => go st (ck.add rt a b) k F u c1 cg nu⟩
theorem put_steps {o : Own} (l : Addr) : putF "_steps" (.ref l) (cF o) = cF ⟨o.p, l, o.u, o.t⟩ := rfl
theorem put_tri {o : Own} (t : Addr) : putF "_triples" (.ref t) (cF o) = cF ⟨o.p, o.s, o.u, t⟩ := by
  have n1 : ¬ (("_steps" : Str) = "_triples") := by decide +kernel
  have n2 : ¬ (("_unknowns" : Str) = "_triples") := by decide +kernel
  show (if ("_steps" : Str) = "_triples" then _ else (("_steps" : Str), V.ref o.s) :: (if ("_unknowns" : Str) = "_triples" then _ else (("_unknowns" : Str), V.ref o.u) :: (if ("_triples" : Str) = "_triples" then [(("_triples" : Str), V.ref t)] else _))) = _
  rw [if_neg n1, if_neg n2, if_pos rfl]
  rfl
section
variable {P : Program} {w : World} {K : PySem.W.Frag} {mg : Str → Option Value} {base : Heap} {C CS CI CM CV B fU fQ fA fV : Addr} {dU dQ dA dV : FuncData}
theorem scSteps : FnScope ["self"] ["self"] (defScope sSteps) := ⟨rfl, rfl, rfl, by decide +kernel, rfl, by decide +kernel, by decide +kernel⟩
theorem scPoints : FnScope ["self"] ["self"] (defScope sPoints) := ⟨rfl, rfl, rfl, by decide +kernel, rfl, by decide +kernel, by decide +kernel⟩
theorem scUnks : FnScope ["self"] ["self"] (defScope sUnks) := ⟨rfl, rfl, rfl, by decide +kernel, rfl, by decide +kernel, by decide +kernel⟩
theorem ok_steps {f : Addr} {fd : FuncData} (F : Fun K "steps" "Construction.steps" sSteps f fd) (T : KindTxt K mg) (CT : ConTxt K mg C) : FnOk P w K mg base CX0 1 f fd ["self"] (spSteps C) := by
  refine F.ok scSteps (fun vs H Q E h => ?_) (fun cdv A outer s H vs Q E hr h => ?_)
  · obtain ⟨o, c, rfl, _⟩ := h
    rfl
  · obtain ⟨o, c, rfl, hc, go⟩ := h
    refine ⟨_, (pss_one (ps_ret (pe_tupleOf (by rfl) T.tuple (pe_fld (pv 0) rfl)))), ?_⟩
    obtain ⟨dx, hob⟩ := hc.ob
    obtain ⟨svs, hs, hsp⟩ := hc.st
    refine ⟨_, rfl, o.p, C, dx, _, _, rfl, hob, CT.cl, CT.nS, f_steps, .inl ⟨o.s, svs, rfl, SqL.of hs, fun q nq => ?_⟩⟩
    exact go q svs _ (same_new nq) nq upd_same (pair_imp (fun _ _ h => h.up (same_new nq)) hsp)
theorem ok_unks {f : Addr} {fd : FuncData} (F : Fun K "unknowns" "Construction.unknowns" sUnks f fd) (T : KindTxt K mg) (CT : ConTxt K mg C) : FnOk P w K mg base CX0 1 f fd ["self"] (spUnks C) := by
  refine F.ok scUnks (fun vs H Q E h => ?_) (fun cdv A outer s H vs Q E hr h => ?_)
  · obtain ⟨o, c, rfl, _⟩ := h
    rfl
  · obtain ⟨o, c, rfl, hc, go⟩ := h
    refine ⟨_, (pss_one (ps_ret (pe_tupleOf (by rfl) T.tuple (pe_fld (pv 0) rfl)))), ?_⟩
    obtain ⟨dx, hob⟩ := hc.ob
    refine ⟨_, rfl, o.p, C, dx, _, _, rfl, hob, CT.cl, CT.nU, f_unk, .inl ⟨o.u, _, rfl, SqL.of hc.un, fun q nq => ?_⟩⟩
    exact go q _ (same_new nq) nq upd_same
theorem ok_points {f : Addr} {fd : FuncData} (F : Fun K "points" "Construction.points" sPoints f fd) (T : KindTxt K mg) (CT : ConTxt K mg C) : FnOk P w K mg base CX0 1 f fd ["self"] (spPoints C) := by
  refine F.ok scPoints (fun vs H Q E h => ?_) (fun cdv A outer s H vs Q E hr h => ?_)
  · obtain ⟨o, c, rfl, _⟩ := h
    rfl
  · obtain ⟨o, c, rfl, hc, go⟩ := h
    refine ⟨_, (pss_one (ps_ret (pe_callTy (call_tupleD rfl) (by rfl) T.tuple (by decide +kernel) (pa_cons (pe_fld (pv 0) rfl) pa_nil)))), ?_⟩
    obtain ⟨dx, hob⟩ := hc.ob
    obtain ⟨kvs, ht, htr⟩ := hc.tr
    refine ⟨_, rfl, o.p, C, dx, _, _, rfl, hob, CT.cl, CT.nT, f_tri, o.t, kvs, rfl, .inl ht, fun q nq => ?_⟩
    have e := htr.keys
    rw [e]
    exact go q _ (same_new nq) nq upd_same
end
end CN

set_option Elab.async false
set_option linter.all false
set_option maxRecDepth 100000
set_option maxHeartbeats 4000000
set_option autoImplicit false
set_option pp.maxSteps 300
/-! Sizes of made points; rows of steps that can be added. Maths. -/
namespace CN
open PySem L2 K1D K2P
open K4 (isNm)
/-- numbers are small, variables below n -/
def LV (n : Nat) (e : Px) : Prop := Low 7 e ∧ Vars n e
theorem lv_num {n : Nat} {k : Int} (h : k.natAbs < 128) : LV n (.num k) := ⟨h, trivial⟩
theorem lv_var {n i : Nat} (h : i < n) : LV n (.var i) := ⟨trivial, h⟩
theorem lv_add {n : Nat} {a b : Px} (h : LV n a) (g : LV n b) : LV n (.add a b) := ⟨⟨h.1, g.1⟩, h.2, g.2⟩
theorem lv_sub {n : Nat} {a b : Px} (h : LV n a) (g : LV n b) : LV n (.sub a b) := ⟨⟨h.1, g.1⟩, h.2, g.2⟩
theorem lv_mul {n : Nat} {a b : Px} (h : LV n a) (g : LV n b) : LV n (.mul a b) := ⟨⟨h.1, g.1⟩, h.2, g.2⟩
theorem lv_scl {n : Nat} {a : Px} {k : Int} (h : LV n a) (g : k.natAbs < 128) : LV n (.scl a k) := ⟨⟨h.1, by omega, by omega⟩, h.2⟩
structure Q3 (n : Nat) (p : P3) : Prop where
  x : LV n p.x
  y : LV n p.y
  w : LV n p.w
theorem Q3.at {n : Nat} {p : P3} (h : Q3 n p) (k : Nat) : LV n (p.at k) := by
  unfold P3.at
  split
  · exact h.x
  · split
    · exact h.y
    · exact h.w
section
variable {n : Nat} {a b c d q : P3} {e f g : Px} {i j : Int}
theorem q_dif (h : Q3 n a) (g : Q3 n b) (k : Nat) : LV n (difX a b k) := lv_sub (lv_mul (g.at k) h.w) (lv_mul (h.at k) g.w)
theorem q_placed (h : LV n e) (g : LV n f) : Q3 n (placedX e f) := ⟨h, g, lv_num (by decide)⟩
theorem q_slid (h : Q3 n a) (g : Q3 n b) (t : LV n e) : Q3 n (slidX a b e) := ⟨lv_add (lv_mul (h.at 0) g.w) (lv_mul t (q_dif h g 0)), lv_add (lv_mul (h.at 1) g.w) (lv_mul t (q_dif h g 1)), lv_mul h.w g.w⟩
theorem q_part (h : Q3 n a) (g : Q3 n b) (hi : i.natAbs < 128) (hj : j.natAbs < 128) : Q3 n (partX a b i j) := ⟨lv_add (lv_scl (lv_mul (h.at 0) g.w) hj) (lv_scl (q_dif h g 0) hi), lv_add (lv_scl (lv_mul (h.at 1) g.w) hj) (lv_scl (q_dif h g 1) hi), lv_scl (lv_mul h.w g.w) hj⟩
theorem q_moved (h : Q3 n q) (h1 : LV n e) (h2 : LV n f) (h3 : LV n g) : Q3 n (movedX q e f g) := ⟨lv_add (lv_mul h.x h3) (lv_mul h.w h1), lv_add (lv_mul h.y h3) (lv_mul h.w h2), lv_mul h.w h3⟩
theorem q_shift (h : Q3 n q) (ha : Q3 n a) (hb : Q3 n b) : Q3 n (shiftX q a b) := q_moved h (q_dif ha hb 0) (q_dif ha hb 1) (lv_mul ha.w hb.w)
theorem q_turn (h : Q3 n q) (ha : Q3 n a) (hb : Q3 n b) : Q3 n (turnX q a b) := q_moved h (lv_scl (q_dif ha hb 1) (by decide)) (q_dif ha hb 0) (lv_mul ha.w hb.w)
theorem q_over (h : Q3 n q) (hc : Q3 n c) : Q3 n (overX q c) := ⟨lv_sub (lv_scl (lv_mul (hc.at 0) h.w) (by decide)) (lv_mul (h.at 0) hc.w), lv_sub (lv_scl (lv_mul (hc.at 1) h.w) (by decide)) (lv_mul (h.at 1) hc.w), lv_mul hc.w h.w⟩
theorem q_square (ha : Q3 n a) (hb : Q3 n b) : LV n (squareX a b) := lv_add (lv_mul (q_dif ha hb 0) (q_dif ha hb 0)) (lv_mul (q_dif ha hb 1) (q_dif ha hb 1))
theorem q_along (h : Q3 n q) (ha : Q3 n a) (hb : Q3 n b) : LV n (alongX q a b) := lv_add (lv_mul (q_dif ha h 0) (q_dif ha hb 0)) (lv_mul (q_dif ha h 1) (q_dif ha hb 1))
theorem q_foot (h : Q3 n q) (ha : Q3 n a) (hb : Q3 n b) : Q3 n (footX q a b) := ⟨lv_add (lv_mul ha.x (lv_mul h.w (q_square ha hb))) (lv_mul (q_along h ha hb) (q_dif ha hb 0)), lv_add (lv_mul ha.y (lv_mul h.w (q_square ha hb))) (lv_mul (q_along h ha hb) (q_dif ha hb 1)), lv_mul ha.w (lv_mul h.w (q_square ha hb))⟩
theorem q_cross (h : Q3 n a) (g : Q3 n b) : Q3 n (crossX a b) := ⟨lv_sub (lv_mul h.y g.w) (lv_mul h.w g.y), lv_sub (lv_mul h.w g.x) (lv_mul h.x g.w), lv_sub (lv_mul h.x g.y) (lv_mul h.y g.x)⟩
theorem q_meet (h : Q3 n a) (g : Q3 n b) (h2 : Q3 n c) (g2 : Q3 n d) : Q3 n (meetX a b c d) := q_cross (q_cross h g) (q_cross h2 g2)
theorem q_centre (h : Q3 n a) (g : Q3 n b) (k : Q3 n c) : Q3 n (centreX a b c) := q_meet (q_part h g (by decide) (by decide)) (q_turn (q_part h g (by decide) (by decide)) h g) (q_part h k (by decide) (by decide)) (q_turn (q_part h k (by decide) (by decide)) h k)
end
theorem q_mk {n : Nat} (wd : Wd) (ps : List P3) (es : List Px) (ns : List Int) (h1 : ∀ p ∈ ps, Q3 n p) (h2 : ∀ e ∈ es, LV n e) (h3 : ∀ k ∈ ns, k.natAbs < 128) : Q3 n (mkP wd ps es ns) := by
  unfold mkP
  split
  all_goals try simp only [List.mem_cons, List.not_mem_nil, or_false, forall_eq_or_imp, forall_eq] at h1 h2 h3
  · exact q_placed h2.1 h2.2
  · exact q_slid h1.1 h1.2 h2
  · exact q_part h1.1 h1.2 h3.1 h3.2
  · exact q_shift h1.1 h1.2.1 h1.2.2
  · exact q_turn h1.1 h1.2.1 h1.2.2
  · exact q_over h1.1 h1.2
  · exact q_over h1.1 (q_foot h1.1 h1.2.1 h1.2.2)
  · exact q_foot h1.1 h1.2.1 h1.2.2
  · exact q_meet h1.1 h1.2.1 h1.2.2.1 h1.2.2.2
  · exact q_over h1.1 (q_foot h1.2.2 h1.1 h1.2.1)
  · exact q_centre h1.1 h1.2.1 h1.2.2
  · exact q_placed (lv_num (by decide)) (lv_num (by decide))
/-! shapes: expressions without their numbers and variables -/
def shp : Px → Px
  | .num _ => .num 0
  | .var _ => .var 0
  | .add a b => .add (shp a) (shp b)
  | .sub a b => .sub (shp a) (shp b)
  | .mul a b => .mul (shp a) (shp b)
  | .scl a _ => .scl (shp a) 0
theorem shp_shp : ∀ e : Px, shp (shp e) = shp e
  | .num _ => rfl
  | .var _ => rfl
  | .add a b => by show Px.add _ _ = Px.add _ _; rw [shp_shp a, shp_shp b]
  | .sub a b => by show Px.sub _ _ = Px.sub _ _; rw [shp_shp a, shp_shp b]
  | .mul a b => by show Px.mul _ _ = Px.mul _ _; rw [shp_shp a, shp_shp b]
  | .scl a _ => by show Px.scl _ _ = Px.scl _ _; rw [shp_shp a]
theorem cnt_shp : ∀ e : Px, cnt (shp e) = cnt e
  | .num _ => rfl
  | .var _ => rfl
  | .add a b => by show _ + _ = _ + _; rw [cnt_shp a, cnt_shp b]
  | .sub a b => by show _ + _ = _ + _; rw [cnt_shp a, cnt_shp b]
  | .mul a b => by show _ * _ = _ * _; rw [cnt_shp a, cnt_shp b]
  | .scl a _ => cnt_shp a
theorem nb_shp (b : Nat) : ∀ e : Px, nb b (shp e) = nb b e
  | .num _ => rfl
  | .var _ => rfl
  | .add x y => by show max _ _ + 1 = max _ _ + 1; rw [nb_shp b x, nb_shp b y]
  | .sub x y => by show max _ _ + 1 = max _ _ + 1; rw [nb_shp b x, nb_shp b y]
  | .mul x y => by show _ + _ = _ + _; rw [nb_shp b x, nb_shp b y]
  | .scl x _ => by show _ + 64 = _ + 64; rw [nb_shp b x]
theorem dg_shp : ∀ e : Px, dg (shp e) = dg e
  | .num _ => rfl
  | .var _ => rfl
  | .add x y => by show max _ _ = max _ _; rw [dg_shp x, dg_shp y]
  | .sub x y => by show max _ _ = max _ _; rw [dg_shp x, dg_shp y]
  | .mul x y => by show _ + _ = _ + _; rw [dg_shp x, dg_shp y]
  | .scl x _ => dg_shp x
def shp3 (p : P3) : P3 := ⟨shp p.x, shp p.y, shp p.w⟩
theorem shp3_shp3 (p : P3) : shp3 (shp3 p) = shp3 p := by unfold shp3; rw [shp_shp, shp_shp, shp_shp]
theorem len0 {α : Type} : ∀ {l : List α}, l.length = 0 → l = []
  | [], _ => rfl
theorem len1 {α : Type} : ∀ {l : List α}, l.length = 1 → ∃ a, l = [a]
  | [a], _ => ⟨a, rfl⟩
theorem len2 {α : Type} : ∀ {l : List α}, l.length = 2 → ∃ a b, l = [a, b]
  | [a, b], _ => ⟨a, b, rfl⟩
theorem len3 {α : Type} : ∀ {l : List α}, l.length = 3 → ∃ a b c, l = [a, b, c]
  | [a, b, c], _ => ⟨a, b, c, rfl⟩
theorem len4 {α : Type} : ∀ {l : List α}, l.length = 4 → ∃ a b c d, l = [a, b, c, d]
  | [a, b, c, d], _ => ⟨a, b, c, d, rfl⟩
theorem shp3_mk (wd : Wd) (ps : List P3) (es : List Px) (ns : List Int) (h1 : ps.length = arP wd) (h2 : es.length = arU wd) (h3 : ns.length = arN wd) : shp3 (mkP wd ps es ns) = shp3 (mkP wd (ps.map shp3) (es.map shp) (ns.map fun _ => 0)) := by
  cases wd
  all_goals dsimp only [arP, arU, arN] at h1 h2 h3
  all_goals first | (obtain ⟨a, b, c, d, rfl⟩ := len4 h1) | (obtain ⟨a, b, c, rfl⟩ := len3 h1) | (obtain ⟨a, b, rfl⟩ := len2 h1) | (obtain rfl := len0 h1)
  all_goals first | (obtain ⟨e, f, rfl⟩ := len2 h2) | (obtain ⟨e, rfl⟩ := len1 h2) | (obtain rfl := len0 h2)
  all_goals first | (obtain ⟨i, j, rfl⟩ := len2 h3) | (obtain rfl := len0 h3)
  all_goals simp [mkP, shp3, placedX, slidX, partX, shiftX, turnX, movedX, overX, mirrorX, secondX, footX, squareX, alongX, difX, meetX, crossX, centreX, P3.at, shp, shp_shp]
def szE (e : Px) : Bool := decide (cnt e < 16777216) && (decide (nb 7 e ≤ 400000) && decide (dg e < radix))
def szOk (p : P3) : Bool := szE p.x && (szE p.y && szE p.w)
theorem szE_shp (e : Px) : szE (shp e) = szE e := by unfold szE; rw [cnt_shp, nb_shp, dg_shp]
theorem szOk_shp (p : P3) : szOk (shp3 p) = szOk p := by unfold szOk shp3; rw [szE_shp, szE_shp, szE_shp]
theorem szE_of {e : Px} (h : szE e = true) : cnt e < sizeLine ∧ nb 7 e ≤ 400000 ∧ dg e < radix := by
  unfold szE at h
  rw [Bool.and_eq_true, Bool.and_eq_true] at h
  exact ⟨by rw [sizeLine_eq]; exact of_decide_eq_true h.1, of_decide_eq_true h.2.1, of_decide_eq_true h.2.2⟩
theorem fine_sz {n : Nat} {p : P3} (q : Q3 n p) (h : szOk p = true) : Fine3 p := by
  unfold szOk at h
  rw [Bool.and_eq_true, Bool.and_eq_true] at h
  have a := szE_of h.1
  have b := szE_of h.2.1
  have c := szE_of h.2.2
  exact ⟨fine_of q.x.1 a.1 a.2.1, fine_of q.y.1 b.1 b.2.1, fine_of q.w.1 c.1 c.2.1⟩
theorem nz_sz {n : Nat} {p : P3} (q : Q3 n p) (h : szOk p = true) {v : Nat → Int} (z : evX v p.w ≠ 0) : NZ p.w := by
  unfold szOk at h
  rw [Bool.and_eq_true, Bool.and_eq_true] at h
  exact nz_point q.w.2 (szE_of h.2.2).2.2 z
/-! ### rows that can be added -/
structure AddGood (c : Cst) (s : Stp) : Prop where
  rt : Right c.names s
  len : c.steps.length < 12
  ul : (c.unk ++ newUnk s).length ≤ 8
  fine : Fine3 (c.mk3 s)
  nz : NZ (c.mk3 s).w
def RowOk : Cst → List Stp → Prop
  | _, [] => True
  | c, s :: ss => AddGood c s ∧ RowOk (c.add s) ss
def Cst.adds (c : Cst) (ss : List Stp) : Cst := ss.foldl Cst.add c
theorem RowOk.app : ∀ {ss : List Stp} {c : Cst} {tt : List Stp}, RowOk c ss → RowOk (c.adds ss) tt → RowOk c (ss ++ tt)
  | [], _, _, _, h => h
  | _ :: _, _, _, h, g => ⟨h.1, RowOk.app h.2 g⟩
theorem RowOk.cok : ∀ {ss : List Stp} {c : Cst}, Cok c → RowOk c ss → Cok (c.adds ss)
  | [], _, h, _ => h
  | s :: ss, c, h, g => RowOk.cok (ss := ss) (c := c.add s) (h.add g.1.rt g.1.len g.1.ul) g.2
/-- names are short -/
def Short (s : Stp) : Prop := s.nm.length ≤ 1000 ∧ ∀ x ∈ s.el, x.length ≤ 1000
theorem Short.pls {H : Hp} {s : Stp} (h : Short s) : Pls H s.vals := fun v m => by
  rcases List.mem_cons.mp m with rfl | m
  · exact .str _ (by cases s.w <;> decide +kernel)
  rcases List.mem_cons.mp m with rfl | m
  · exact .str _ (by have := h.1; omega)
  rcases List.mem_append.mp m with m | m
  · obtain ⟨x, mx, rfl⟩ := List.mem_map.mp m
    exact .str _ (by have := h.2 x mx; omega)
  · obtain ⟨x, mx, rfl⟩ := List.mem_map.mp m
    exact .int _
theorem Stp.Shp.len8 {s : Stp} (h : s.Shp) : s.vals.length < 1000000 := by
  unfold Stp.vals Stp.mem
  rw [List.length_cons, List.length_cons, List.length_append, List.length_map, List.length_map, h.el, h.nu]
  have := ar4 s.w
  have := arN2 s.w
  omega
theorem Right.short {c : Cst} {s : Stp} (ck : Cok c) (r : Right c.names s) : Short s := by
  refine ⟨by have := nm_len r.nm; omega, fun x m => ?_⟩
  have := r.el x m
  rw [ck.nm] at this
  obtain ⟨s2, m2, rfl⟩ := List.mem_map.mp this
  have := nm_len (ck.st s2 m2).2
  omega
section
variable {CS CI CM : Addr} {H : Hp} {E : XK} {c : Cst} {s : Stp} {x : V} {K : Cst → Prop}
theorem AddGood.out (g : AddGood c s) (ck : Cok c) (sq : SeqV H x s.vals) (k : K (c.add s)) : AddOut CS CI CM H E c x K :=
  .inr ⟨s.vals, sq, (g.rt.short ck).pls, g.rt.shp.len8, fun k e => (by rw [g.rt.chk] at e; cases e), fun _ => ⟨s, rfl, g.rt, fun e => (by have := g.len; omega), fun _ e => (by have := g.ul; omega), fun _ _ => ⟨g.fine, .inr ⟨g.nz, k⟩⟩⟩⟩
theorem bad_out (rt : Right c.names s) (ck : Cok c) (l : c.steps.length < 12) (u : (c.unk ++ newUnk s).length ≤ 8) (f : Fine3 (c.mk3 s)) (z : ∀ v, evX v (c.mk3 s).w = 0) (sq : SeqV H x s.vals) (rz : Raises CI "name" (.str s.nm) H E) : AddOut CS CI CM H E c x K :=
  .inr ⟨s.vals, sq, (rt.short ck).pls, rt.shp.len8, fun k e => (by rw [rt.chk] at e; cases e), fun _ => ⟨s, rfl, rt, fun e => (by omega), fun _ e => (by omega), fun _ _ => ⟨f, .inl ⟨z, rz⟩⟩⟩⟩
theorem full_out (rt : Right c.names s) (ck : Cok c) (l : c.steps.length = 12) (sq : SeqV H x s.vals) (rz : Raises CM "word" (.str "points") H E) : AddOut CS CI CM H E c x K :=
  .inr ⟨s.vals, sq, (rt.short ck).pls, rt.shp.len8, fun k e => (by rw [rt.chk] at e; cases e), fun _ => ⟨s, rfl, rt, fun _ => rz, fun h _ => (by omega), fun h _ => (by omega)⟩⟩
theorem chk_taken {names : List Str} (sh : s.Shp) (nm : isNm s.nm = true) (m : s.nm ∈ names) : chkAt names s.vals = some 1 := by
  unfold chkAt
  rw [if_pos sh.formed]
  show (if (isNm s.nm && !decide (s.nm ∈ names)) = true then (match wdOf (wdS s.w) with
      | some wd => (wrongAt names (formT wd).cps.toList s.mem).map (2 + ·)
      | Option.none => some 0) else some 1) = some 1
  rw [nm, decide_eq_true m]
  rfl
theorem taken_out (sh : s.Shp) (nm : isNm s.nm = true) (m : s.nm ∈ c.names) (st : Short s) (sq : SeqV H x s.vals) (rz : Raises CS "at" (.int ((1 : Nat) : Int)) H E) : AddOut CS CI CM H E c x K :=
  .inr ⟨s.vals, sq, st.pls, sh.len8, fun k e => (by rw [chk_taken sh nm m] at e; cases e; exact rz), fun e => (by rw [chk_taken sh nm m] at e; cases e)⟩
end
/-- a list of good steps is built -/
theorem RowOk.out {CS CI CM : Addr} {H : Hp} {E : XK} {K : Cst → Prop} : ∀ {ss : List Stp} {vs us : List V} {c : Cst}, Cok c → RowOk c ss → Paired (fun v (s : Stp) => SeqV H v s.vals) vs ss → BldOut CS CI CM H E K (c.adds ss) us → BldOut CS CI CM H E K c (vs ++ us)
  | _, _, _, _, _, _, .nil, h => h
  | _, _, _, _, ck, r, .cons sq q, h => r.1.out ck sq (RowOk.out (ck.add r.1.rt r.1.len r.1.ul) r.2 q h)
theorem StepAt.seq {H : Hp} {v : V} {s : Stp} (h : StepAt H v s) : SeqV H v s.vals := by
  obtain ⟨a, e, h⟩ := h
  exact ⟨a, e, .inr h⟩
/-! ### what add keeps -/
theorem pt_old {c : Cst} {s : Stp} {x : Str} (h : x ∈ c.names) : (c.add s).pt x = c.pt x := by
  have := pt_some h
  unfold Cst.pt at this ⊢
  show ((c.tri ++ [_]).find? _).map _ = _
  rw [List.find?_append]
  cases q : c.tri.find? fun e => decide (e.1 = x) with
  | none => rw [q] at this; cases this
  | some e => rfl
theorem pt_new {c : Cst} {s : Stp} (h : s.nm ∉ c.names) : (c.add s).pt s.nm = some (c.mk3 s) := by
  have e : (c.tri.find? fun e => decide (e.1 = s.nm)) = none := by
    have : (c.tri.find? fun e => decide (e.1 = s.nm)).isSome = decide (s.nm ∈ c.names) := find_mem
    rw [decide_eq_false h] at this
    cases q : c.tri.find? fun e => decide (e.1 = s.nm) with
    | none => rfl
    | some e => rw [q] at this; cases this
  unfold Cst.pt
  show ((c.tri ++ [(s.nm, c.mk3 s)]).find? _).map _ = _
  rw [List.find?_append, e]
  simp [List.find?_cons]
theorem names_add (c : Cst) (s : Stp) : (c.add s).names = c.names ++ [s.nm] := by
  show (c.tri ++ [(s.nm, c.mk3 s)]).map (·.1) = _
  rw [List.map_append]
  rfl
theorem mk3_congr {s : Stp} {f g : Str → Option P3} {j k : Nat} (h : ∀ x ∈ s.el, f x = g x) (u : arU s.w = 0) : s.mk3 f j = s.mk3 g k := by
  unfold Stp.mk3
  rw [u]
  have : (s.el.map fun x => (f x).getD (placedX (.num 0) (.num 0))) = s.el.map fun x => (g x).getD (placedX (.num 0) (.num 0)) := List.map_congr_left fun x m => by rw [h x m]
  rw [this]
  rfl
theorem new_none {s : Stp} (u : arU s.w = 0) : newUnk s = [] := by
  have := newUnk_len s
  rw [u] at this
  exact List.length_eq_zero_iff.mp this
/-- steps without unknowns, of points that were there at the start -/
structure Moves (names0 : List Str) (pt0 : Str → Option P3) (s : Stp) : Prop where
  shp : s.Shp
  nm : isNm s.nm = true
  el : ∀ x ∈ s.el, x ∈ names0
  nu : ∀ (i : Nat) (k : Int), s.nu[i]? = some k → leastN (if i = 0 then 110 else 100) ≤ k ∧ k ≤ 100
  un : arU s.w = 0
  fine : Fine3 (s.mk3 pt0 0)
  nz : NZ (s.mk3 pt0 0).w
structure After (names0 : List Str) (pt0 : Str → Option P3) (c : Cst) (ss : List Stp) (c2 : Cst) : Prop where
  row : RowOk c ss
  nm : c2.names = c.names ++ ss.map (·.nm)
  old : ∀ x ∈ c.names, c2.pt x = c.pt x
  new : ∀ s ∈ ss, c2.pt s.nm = some (s.mk3 pt0 0)
  un : c2.unk = c.unk
  st : c2.steps = c.steps ++ ss
theorem moves_ok {names0 : List Str} {pt0 : Str → Option P3} : ∀ {ss : List Stp} {c : Cst}, (∀ x ∈ names0, x ∈ c.names) → (∀ x ∈ names0, c.pt x = pt0 x) → (∀ s ∈ ss, Moves names0 pt0 s) → (ss.map (·.nm)).Nodup → (∀ s ∈ ss, s.nm ∉ c.names) → c.steps.length + ss.length ≤ 12 → c.unk.length ≤ 8 → After names0 pt0 c ss (c.adds ss)
  | [], c, _, _, _, _, _, _, _ => ⟨trivial, by simp [Cst.adds], fun _ _ => rfl, fun _ h => (nomatch h), rfl, by simp [Cst.adds]⟩
  | s :: ss, c, hs, hp, hm, nd, nn, l, u => by
    have m := hm s List.mem_cons_self
    have n1 := nn s List.mem_cons_self
    have e : c.mk3 s = s.mk3 pt0 0 := mk3_congr (fun x mx => hp x (m.el x mx)) m.un
    have nu := new_none m.un
    rw [List.length_cons] at l
    have nd2 := List.nodup_cons.mp nd
    have g : AddGood c s := ⟨⟨m.shp, m.nm, n1, fun x mx => hs x (m.el x mx), m.nu⟩, by omega, by rw [nu, List.append_nil]; exact u, by rw [e]; exact m.fine, by rw [e]; exact m.nz⟩
    have ih := moves_ok (names0 := names0) (pt0 := pt0) (ss := ss) (c := c.add s) (fun x mx => by rw [names_add]; exact List.mem_append_left _ (hs x mx)) (fun x mx => by rw [pt_old (hs x mx)]; exact hp x mx) (fun t mt => hm t (List.mem_cons_of_mem _ mt)) nd2.2
      (fun t mt q => by
        rw [names_add] at q
        rcases List.mem_append.mp q with q | q
        · exact nn t (List.mem_cons_of_mem _ mt) q
        · have : t.nm = s.nm := List.mem_singleton.mp q
          exact nd2.1 (List.mem_map.mpr ⟨t, mt, this⟩)) (by show (c.steps ++ [s]).length + _ ≤ _; rw [List.length_append]; show c.steps.length + 1 + ss.length ≤ 12; omega) (by show (c.unk ++ newUnk s).length ≤ 8; rw [nu, List.append_nil]; exact u)
    refine ⟨⟨g, ih.row⟩, ?_, fun x mx => ?_, fun t mt => ?_, ?_, ?_⟩
    · show ((c.add s).adds ss).names = _
      rw [ih.nm, names_add, List.append_assoc]
      rfl
    · show ((c.add s).adds ss).pt x = _
      rw [ih.old x (by rw [names_add]; exact List.mem_append_left _ mx), pt_old mx]
    · show ((c.add s).adds ss).pt t.nm = _
      rcases List.mem_cons.mp mt with rfl | mt
      · rw [ih.old _ (by rw [names_add]; exact List.mem_append_right _ (List.mem_singleton.mpr rfl)), pt_new n1, e]
      · exact ih.new t mt
    · show ((c.add s).adds ss).unk = _
      rw [ih.un]
      show c.unk ++ newUnk s = c.unk
      rw [nu, List.append_nil]
    · show ((c.add s).adds ss).steps = _
      rw [ih.st]
      show (c.steps ++ [s]) ++ ss = c.steps ++ s :: ss
      rw [List.append_assoc]
      rfl
end CN

set_option Elab.async false
set_option linter.all false
set_option maxRecDepth 100000
set_option maxHeartbeats 4000000
set_option autoImplicit false
set_option pp.maxSteps 600
/-! The law's state: a dict with text keys; draws. -/
namespace CN
open PySem L2 TL K1D K2P
open K4 (isNm lets lets_iff)
structure DicTxt (mg : Str → Option Value) : Prop where
  len : mg "len" = none
  int : mg "int" = none
  abs : mg "abs" = none
  list : mg "list" = none
  range : mg "range" = none
abbrev sStart : Stmt := K2P.top 62
abbrev sDraw : Stmt := K2P.top 63
abbrev Ky := L2.Key
def kC : Ky := Sum.inr "cells"
def kA : Ky := Sum.inr "at"
def kV_ : Ky := Sum.inr "value"
def kL : Ky := Sum.inr "left"
def kM : Ky := Sum.inr "mixed"
def kN : Ky := Sum.inr "count"
def kS : Ky := Sum.inr "seed"
def stK (c : V) (a v f m n s : Int) : List (Ky × V) := [(kC, c), (kA, .int a), (kV_, .int v), (kL, .int f), (kM, .int m), (kN, .int n), (kS, .int s)]
theorem ne_keys : kC ≠ kA ∧ kC ≠ kV_ ∧ kC ≠ kL ∧ kC ≠ kM ∧ kC ≠ kN ∧ kC ≠ kS ∧ kA ≠ kV_ ∧ kA ≠ kL ∧ kA ≠ kM ∧ kA ≠ kN ∧ kA ≠ kS ∧ kV_ ≠ kL ∧ kV_ ≠ kM ∧ kV_ ≠ kN ∧ kV_ ≠ kS ∧ kL ≠ kM ∧ kL ≠ kN ∧ kL ≠ kS ∧ kM ≠ kN ∧ kM ≠ kS ∧ kN ≠ kS := by decide +kernel
section
variable {c : V} {a v f m n s x : Int}
theorem val_C : valV (stK c a v f m n s) kC = some (c) := by
  have := ne_keys
  simp [valV, stK, this, Ne.symm]
theorem val_A : valV (stK c a v f m n s) kA = some (.int a) := by
  have := ne_keys
  simp [valV, stK, this, Ne.symm]
theorem val_V : valV (stK c a v f m n s) kV_ = some (.int v) := by
  have := ne_keys
  simp [valV, stK, this, Ne.symm]
theorem val_L : valV (stK c a v f m n s) kL = some (.int f) := by
  have := ne_keys
  simp [valV, stK, this, Ne.symm]
theorem val_M : valV (stK c a v f m n s) kM = some (.int m) := by
  have := ne_keys
  simp [valV, stK, this, Ne.symm]
theorem val_N : valV (stK c a v f m n s) kN = some (.int n) := by
  have := ne_keys
  simp [valV, stK, this, Ne.symm]
theorem val_S : valV (stK c a v f m n s) kS = some (.int s) := by
  have := ne_keys
  simp [valV, stK, this, Ne.symm]
theorem put_A : putK (stK c a v f m n s) kA (.int x) = stK c x v f m n s := by
  have := ne_keys
  simp [putK, stK, this, Ne.symm]
theorem put_V : putK (stK c a v f m n s) kV_ (.int x) = stK c a x f m n s := by
  have := ne_keys
  simp [putK, stK, this, Ne.symm]
theorem put_L : putK (stK c a v f m n s) kL (.int x) = stK c a v x m n s := by
  have := ne_keys
  simp [putK, stK, this, Ne.symm]
theorem put_M : putK (stK c a v f m n s) kM (.int x) = stK c a v f x n s := by
  have := ne_keys
  simp [putK, stK, this, Ne.symm]
theorem put_N : putK (stK c a v f m n s) kN (.int x) = stK c a v f m x s := by
  have := ne_keys
  simp [putK, stK, this, Ne.symm]
variable {H : Hp} {p : Addr}
theorem getC (g : H p = some (.dK (stK c a v f m n s))) : DGet H p (.str "cells") (some (c)) := by
  have h := DGet.k (k := kC) g
  rw [val_C] at h
  exact h
theorem getA (g : H p = some (.dK (stK c a v f m n s))) : DGet H p (.str "at") (some (.int a)) := by
  have h := DGet.k (k := kA) g
  rw [val_A] at h
  exact h
theorem getV (g : H p = some (.dK (stK c a v f m n s))) : DGet H p (.str "value") (some (.int v)) := by
  have h := DGet.k (k := kV_) g
  rw [val_V] at h
  exact h
theorem getL (g : H p = some (.dK (stK c a v f m n s))) : DGet H p (.str "left") (some (.int f)) := by
  have h := DGet.k (k := kL) g
  rw [val_L] at h
  exact h
theorem getM (g : H p = some (.dK (stK c a v f m n s))) : DGet H p (.str "mixed") (some (.int m)) := by
  have h := DGet.k (k := kM) g
  rw [val_M] at h
  exact h
theorem getN (g : H p = some (.dK (stK c a v f m n s))) : DGet H p (.str "count") (some (.int n)) := by
  have h := DGet.k (k := kN) g
  rw [val_N] at h
  exact h
theorem getS (g : H p = some (.dK (stK c a v f m n s))) : DGet H p (.str "seed") (some (.int s)) := by
  have h := DGet.k (k := kS) g
  rw [val_S] at h
  exact h
theorem setA (g : H p = some (.dK (stK c a v f m n s))) (x : Int) : DPut H p (.str "at") (.int x) (upd H p (.dK (stK c x v f m n s))) := by
  have h := DPut.k (k := kA) (v := .int x) g (by show 7 < sizeLine; decide)
  rw [put_A] at h
  exact h
theorem setV (g : H p = some (.dK (stK c a v f m n s))) (x : Int) : DPut H p (.str "value") (.int x) (upd H p (.dK (stK c a x f m n s))) := by
  have h := DPut.k (k := kV_) (v := .int x) g (by show 7 < sizeLine; decide)
  rw [put_V] at h
  exact h
theorem setL (g : H p = some (.dK (stK c a v f m n s))) (x : Int) : DPut H p (.str "left") (.int x) (upd H p (.dK (stK c a v x m n s))) := by
  have h := DPut.k (k := kL) (v := .int x) g (by show 7 < sizeLine; decide)
  rw [put_L] at h
  exact h
theorem setM (g : H p = some (.dK (stK c a v f m n s))) (x : Int) : DPut H p (.str "mixed") (.int x) (upd H p (.dK (stK c a v f x n s))) := by
  have h := DPut.k (k := kM) (v := .int x) g (by show 7 < sizeLine; decide)
  rw [put_M] at h
  exact h
theorem setN (g : H p = some (.dK (stK c a v f m n s))) (x : Int) : DPut H p (.str "count") (.int x) (upd H p (.dK (stK c a v f m x s))) := by
  have h := DPut.k (k := kN) (v := .int x) g (by show 7 < sizeLine; decide)
  rw [put_N] at h
  exact h
end
/-- at p the state, its cells at l -/
def StL (H : Hp) (p l : Addr) : Prop := ∃ (ns : List Int) (a v f m n s : Int), H p = some (.dK (stK (.ref l) a v f m n s)) ∧ H l = some (.lst (ns.map V.int)) ∧ 0 ≤ a ∧ l ≠ p
/-- all but the state stands -/
def Bt (p : Addr) (H G : Hp) : Prop := ∀ a o, a ≠ p → H a = some o → G a = some o
section
variable {p l q : Addr} {H G F : Hp} {o : HO}
theorem Bt.refl : Bt p H H := fun _ _ _ e => e
theorem Bt.trans (h : Bt p H G) (g : Bt p G F) : Bt p H F := fun a o n e => g a o n (h a o n e)
theorem Bt.same (s : Same H G) : Bt p H G := fun a o _ e => s a o e
theorem Bt.put : Bt p H (upd H p o) := fun a u n e => (upd_ne n).trans e
theorem Bt.new (n : H q = none) : Bt p H (upd H q o) := fun a u _ e => (upd_ne (ne_of_none e n)).trans e
/-- an object of one's own -/
theorem Bt.set (h : Bt p H G) (n : H q = none) : Bt p H (upd G q o) := fun a u m e => (upd_ne (ne_of_none e n)).trans (h a u m e)
theorem StL.put {ns : List Int} {a v f m n s : Int} (h2 : H l = some (.lst (ns.map V.int))) (a0 : 0 ≤ a) (lp : l ≠ p) : StL (upd H p (.dK (stK (.ref l) a v f m n s))) p l := ⟨ns, a, v, f, m, n, s, upd_same, (upd_ne lp).trans h2, a0, lp⟩
theorem StL.same (h : StL H p l) (s : Same H G) : StL G p l := by
  obtain ⟨ns, a, v, f, m, n, sd, h1, h2, a0, lp⟩ := h
  exact ⟨ns, a, v, f, m, n, sd, s _ _ h1, s _ _ h2, a0, lp⟩
theorem StL.ne (h : StL H p l) (n : H q = none) : q ≠ p ∧ q ≠ l := by
  obtain ⟨ns, a, v, f, m, k, sd, h1, h2, a0, lp⟩ := h
  exact ⟨fun z => (by rw [z, h1] at n; cases n), fun z => (by rw [z, h2] at n; cases n)⟩
theorem StL.set (h : StL H p l) (np : q ≠ p) (nl : q ≠ l) : StL (upd H q o) p l := by
  obtain ⟨ns, a, v, f, m, n, sd, h1, h2, a0, lp⟩ := h
  exact ⟨ns, a, v, f, m, n, sd, (upd_ne (Ne.symm np)).trans h1, (upd_ne (Ne.symm nl)).trans h2, a0, lp⟩
theorem StL.up (h : StL H p l) (n : H q = none) : StL (upd H q o) p l := h.same (same_new n)
/-- what isn't there behind wasn't there ahead -/
theorem bt_none (b : Bt p H G) (h : StL G p l) (n : G q = none) : H q = none := by
  cases e : H q with
  | none => rfl
  | some o => rw [b q o (h.ne n).1 e] at n; cases n
end
def spDraw : Sp := fun vs H Q _ => ∃ (p l : Addr) (k : Int), vs = [.ref p, .int k] ∧ StL H p l ∧ 0 < k ∧ k ≤ 10 ^ 30 ∧ ∀ (z : Int) (H' : Hp), 0 ≤ z → z < k → StL H' p l → Bt p H H' → Q (.int z) H'
section
variable {P : Program} {w : World} {K : PySem.W.Frag} {mg : Str → Option Value} {base : Heap}
theorem hu1 {k : Nat} {A : Around} (r : Room k A) : A.units + 1 < cLine := by have := r.un; omega
theorem wide30 {c k : Int} (h0 : 0 < k) (h : k ≤ 10 ^ 30) : CDivW c k := by
  refine wide_div h0 (b := 128) ?_ (by decide) (by decide)
  have : (2 : Nat) ^ 128 = 340282366920938463463374607431768211456 := by decide +kernel
  omega
theorem scDraw : FnScope ["state", "many", "cell", "number_v", "digit"] ["state", "many"] (defScope sDraw) := ⟨rfl, rfl, rfl, by decide +kernel, rfl, by decide +kernel, by decide +kernel⟩
theorem ok_draw {f : Addr} {fd : FuncData} (F : Fun K "_law_draw" "_law_draw" sDraw f fd) (T : DicTxt mg) : FnOk P w K mg base CX0 1 f fd ["state", "many"] spDraw := by
  refine F.ok scDraw (fun vs H Q E h => ?_) (fun cdv A outer s H vs Q E hr h => ?_)
  · obtain ⟨p, l, k, rfl, _⟩ := h
    rfl
  · obtain ⟨p, l, k, rfl, hs, k0, k9, go⟩ := h
    refine ⟨_, pss_cons (ps_dput (hu1 hr) (pv 0) pe_str (pe_op op_add (pe_dget (hu1 hr) (pv 0) pe_str (fun _ _ => rfl)) pe_int) rfl) (C8.pss_cut (ps_if (pt_cmpR op_eq (pe_dget (hu1 hr) (pv 0) pe_str (fun _ _ => rfl)) pe_int (nomark _)) (pss_cons (ps_dput (hu1 hr) (pv 0) pe_str pe_int rfl) (pss_cons (ps_dput (hu1 hr) (pv 0) pe_str pe_int rfl) (pss_cons (ps_dput (hu1 hr) (pv 0) pe_str (pe_dget (hu1 hr) (pv 0) pe_str (fun _ _ => rfl)) rfl) (pss_one (ps_if (pt_cmpR op_lt (pe_dget (hu1 hr) (pv 0) pe_str (fun _ _ => rfl)) (pe_callB call_len_seq (by rfl) T.len PySem.boot_len (pa_cons (pe_dget (hu1 hr) (pv 0) pe_str (fun _ _ => rfl)) pa_nil)) (nomark _)) (pss_cons (ps_set (i := 2) scDraw.nd rfl (Or.inl rfl) (pe_ix ix_list (pe_dget (hu1 hr) (pv 0) pe_str (fun _ _ => rfl)) (pe_dget (hu1 hr) (pv 0) pe_str (fun _ _ => rfl)) (fun _ _ => rfl))) (pss_cons (ps_dput (hu1 hr) (pv 0) pe_str (pe_op op_add (pe_dget (hu1 hr) (pv 0) pe_str (fun _ _ => rfl)) pe_int) rfl) (pss_cons (ps_dput (hu1 hr) (pv 0) pe_str (pe_op op_fdiv (pe_callB call_abs (by rfl) T.abs (by decide +kernel) (pa_cons (pv 2) pa_nil)) pe_int) rfl) (pss_cons (ps_dput (hu1 hr) (pv 0) pe_str (pe_op op_mod (pe_callTy call_int1 (by rfl) T.int (by decide +kernel) (pa_cons (pv 2) pa_nil)) pe_int) rfl) (pss_one (ps_dput (hu1 hr) (pv 0) pe_str (pe_op op_sub pe_int (pe_op op_mul pe_int (pe_dget (hu1 hr) (pv 0) pe_str (fun _ _ => rfl)))) rfl)))))) pss_nil))))) pss_nil)
      (pss_cons (ps_dput (hu1 hr) (pv 0) pe_str (pe_op op_sub (pe_dget (hu1 hr) (pv 0) pe_str (fun _ _ => rfl)) pe_int) rfl) (pss_cons (ps_if (pt_cmpR op_eq (pe_dget (hu1 hr) (pv 0) pe_str (fun _ _ => rfl)) pe_int (nomark _)) (pss_cons (ps_set (i := 3) scDraw.nd rfl (Or.inl rfl) (pe_op op_mod (pe_callTy call_int1 (by rfl) T.int (by decide +kernel) (pa_cons (pe_op op_add (pe_dget (hu1 hr) (pv 0) pe_str (fun _ _ => rfl)) (pe_op op_mul pe_int (pe_dget (hu1 hr) (pv 0) pe_str (fun _ _ => rfl)))) pa_nil)) pe_int)) (pss_cons (ps_set (i := 3) scDraw.nd rfl (Or.inl rfl) (pe_op op_mod (pe_callTy call_int1 (by rfl) T.int (by decide +kernel) (pa_cons (pe_op op_add (pe_op op_mul (pv 3) (pv 3)) (pe_op op_mul pe_int (pe_dget (hu1 hr) (pv 0) pe_str (fun _ _ => rfl)))) pa_nil)) pe_int)) (pss_one (ps_ret (pe_op op_modN (pe_callTy call_int1 (by rfl) T.int (by decide +kernel) (pa_cons (pe_op op_fdiv (pe_op op_mod (pe_callTy call_int1 (by rfl) T.int (by decide +kernel) (pa_cons (pe_op op_mul (pv 3) pe_int) pa_nil)) pe_int) pe_int) pa_nil)) (pv 1)))))) pss_nil) (pss_cons (ps_set (i := 4) scDraw.nd rfl (Or.inl rfl) (pe_op op_modN (pe_callTy call_int1 (by rfl) T.int (by decide +kernel) (pa_cons (pe_dget (hu1 hr) (pv 0) pe_str (fun _ _ => rfl)) pa_nil)) (pv 1))) (pss_cons (ps_dput (hu1 hr) (pv 0) pe_str (pe_op op_fdivW (pe_dget (hu1 hr) (pv 0) pe_str (fun _ _ => rfl)) (pv 1)) rfl) (pss_cons (ps_if (pt_cmpR op_eq (pe_dget (hu1 hr) (pv 0) pe_str (fun _ _ => rfl)) pe_int (nomark _)) (pss_one (ps_dput (hu1 hr) (pv 0) pe_str pe_int rfl)) pss_nil) (pss_one (ps_ret (pv 4))))))))), ?_⟩
    obtain ⟨ns, a, v, f0, m, n, sd, h1, h2, a0, lp⟩ := hs
    refine ⟨_, rfl, p, _, rfl, getN h1, _, _, rfl, rfl, _, rfl, p, _, rfl, setN h1 _, ?_⟩
    have t1 : Bt p H (upd H p (.dK (stK (.ref l) a v f0 m (n + 1) sd))) := Bt.put
    have e1 : upd H p (.dK (stK (.ref l) a v f0 m (n + 1) sd)) p = some (.dK (stK (.ref l) a v f0 m (n + 1) sd)) := upd_same
    have e2 : upd H p (.dK (stK (.ref l) a v f0 m (n + 1) sd)) l = some (.lst (ns.map V.int)) := (upd_ne lp).trans h2
    generalize upd H p (.dK (stK (.ref l) a v f0 m (n + 1) sd)) = G at t1 e1 e2 ⊢
    refine ⟨fun σ G => ∃ u : Option V, σ = [some (.ref p), some (.int k), u, none, none] ∧ StL G p l ∧ Bt p H G, ?_, ?_⟩
    · refine ⟨_, rfl, p, _, rfl, getL e1, rfl, _, rfl, ?_⟩
      refine ite2 (fun _ => ?_) (fun _ => ⟨_, rfl, ⟨ns, a, v, f0, m, _, sd, e1, e2, a0, lp⟩, t1⟩)
      refine ⟨_, rfl, p, _, rfl, setL e1 _, ?_⟩
      refine ⟨_, rfl, p, _, rfl, setM upd_same _, ?_⟩
      refine ⟨_, rfl, p, _, rfl, getS upd_same, _, rfl, p, _, rfl, setV upd_same _, ?_⟩
      rw [upd_upd, upd_upd]
      refine ⟨_, rfl, p, _, rfl, getA upd_same, _, rfl, p, _, rfl, getC upd_same, l, _, rfl, .inl (SqL.of ((upd_ne lp).trans e2)), _, _, rfl, rfl, _, rfl, ?_⟩
      refine ite2 (fun hc => ?_) (fun _ => ⟨_, rfl, StL.put e2 a0 lp, t1.trans Bt.put⟩)
      have hc' := of_decide_eq_true hc
      obtain ⟨j, rfl⟩ : ∃ j : Nat, a = j := ⟨a.toNat, by omega⟩
      have hj : j < ns.length := by rw [List.length_map] at hc'; omega
      have hv : (ns.map V.int)[j]? = some (V.int ns[j]) := by simp [hj]
      refine ⟨_, rfl, p, _, rfl, getC upd_same, _, rfl, p, _, rfl, getA upd_same, l, _, _, _, rfl, rfl, SqL.of ((upd_ne lp).trans e2), atI_nat hv, ?_⟩
      refine ⟨_, rfl, p, _, rfl, getA upd_same, _, _, rfl, rfl, _, rfl, p, _, rfl, setA upd_same _, ?_⟩
      refine ⟨_, rfl, _, rfl, _, _, rfl, rfl, ⟨by decide, by decide⟩, _, rfl, p, _, rfl, setV upd_same _, ?_⟩
      refine ⟨_, rfl, .inl ⟨_, rfl, _, _, rfl, rfl, (by show (0 : Int) < 2; decide), _, rfl, p, _, rfl, setM upd_same _, ?_⟩⟩
      refine ⟨_, rfl, p, _, rfl, getM upd_same, _, _, rfl, rfl, .inl (by decide), _, _, rfl, rfl, _, rfl, p, _, rfl, setL upd_same _, ?_⟩
      rw [upd_upd, upd_upd, upd_upd, upd_upd]
      exact ⟨_, rfl, StL.put e2 (by omega) lp, t1.trans Bt.put⟩
    · rintro σ G ⟨u, rfl, ⟨ns, a, v, f0, m, n, sd, h1, h2, a0, lp⟩, tG⟩
      refine ⟨_, rfl, p, _, rfl, getL h1, _, _, rfl, rfl, _, rfl, p, _, rfl, setL h1 _, ?_⟩
      have z0 : ∀ y : Int, 0 ≤ y.fmod k ∧ y.fmod k < k := fun y => ⟨Int.fmod_nonneg_of_pos _ k0, Int.fmod_lt_of_pos _ k0⟩
      refine ⟨_, rfl, p, _, rfl, getM upd_same, rfl, _, rfl, ?_⟩
      refine ite2 (fun _ => ?_) (fun _ => ?_)
      · refine ⟨_, rfl, p, _, rfl, getV upd_same, _, rfl, p, _, rfl, getN upd_same, _, _, rfl, rfl, .inl (by decide), _, _, rfl, rfl, .inl ⟨_, rfl, _, _, rfl, rfl, (by show (0 : Int) < 1000003; decide), ?_⟩⟩
        have m0 := Int.emod_nonneg (v + 7919 * n) (show (1000003 : Int) ≠ 0 by decide)
        have m1 := Int.emod_lt_of_pos (v + 7919 * n) (show (0 : Int) < 1000003 by decide)
        generalize (v + 7919 * n) % 1000003 = y at m0 m1 ⊢
        refine ⟨_, rfl, _, rfl, _, _, rfl, rfl, .inl ⟨by omega, by omega⟩, _, rfl, p, _, rfl, getN upd_same, _, _, rfl, rfl, .inl (by decide), _, _, rfl, rfl, .inl ⟨_, rfl, _, _, rfl, rfl, (by show (0 : Int) < 998244353; decide), ?_⟩⟩
        have b0 := Int.emod_nonneg (y * y + 31 * n) (show (998244353 : Int) ≠ 0 by decide)
        have b1 := Int.emod_lt_of_pos (y * y + 31 * n) (show (0 : Int) < 998244353 by decide)
        generalize (y * y + 31 * n) % 998244353 = y2 at b0 b1 ⊢
        refine ⟨_, rfl, _, _, rfl, rfl, .inr (by decide), .inl ⟨_, rfl, _, _, rfl, rfl, (by show (0 : Int) < 2147483647; decide), _, _, rfl, rfl, ⟨by decide, by decide⟩, .inl ⟨_, rfl, ?_⟩⟩⟩
        refine ⟨_, rfl, _, _, rfl, rfl, Int.ne_of_gt k0, ?_⟩
        exact go _ _ (z0 _).1 (z0 _).2 (StL.put h2 a0 lp) (tG.trans Bt.put)
      · refine ⟨_, rfl, p, _, rfl, getV upd_same, .inl ⟨_, rfl, _, rfl, _, _, rfl, rfl, Int.ne_of_gt k0, ?_⟩⟩
        refine ⟨_, rfl, p, _, rfl, getV upd_same, _, rfl, _, _, rfl, rfl, wide30 k0 k9, _, rfl, p, _, rfl, setV upd_same _, ?_⟩
        refine ⟨_, rfl, p, _, rfl, getV upd_same, rfl, _, rfl, ?_⟩
        refine ite2 (fun _ => ?_) (fun _ => ?_)
        · refine ⟨_, rfl, p, _, rfl, setL upd_same _, _, rfl, ?_⟩
          rw [upd_upd, upd_upd]
          exact go _ _ (z0 _).1 (z0 _).2 (StL.put h2 a0 lp) (tG.trans Bt.put)
        · refine ⟨_, rfl, ?_⟩
          rw [upd_upd]
          exact go _ _ (z0 _).1 (z0 _).2 (StL.put h2 a0 lp) (tG.trans Bt.put)
end
theorem merge_st {c : V} {a v f m n s : Int} : mergeK [] (stK c a v f m n s) = stK c a v f m n s := by
  have := ne_keys
  simp [mergeK, putK, stK, this, Ne.symm]
def spStart (K : PySem.W.Frag) : Sp := fun vs H Q _ => ∃ (a : Addr) (ns : List Int), vs = [.ref a] ∧ SqL K H a (ns.map V.int) ∧ ns.length ≤ 1000 ∧ ∀ (p l : Addr) (H' : Hp), Same H H' → StL H' p l → Q (.ref p) H'
section
variable {P : Program} {w : World} {K : PySem.W.Frag} {mg : Str → Option Value} {base : Heap}
theorem map_at {ns : List Int} {i : Nat} {y : V} (h : (ns.map V.int)[i]? = some y) : ∃ u, y = V.int u ∧ ns[i]? = some u := by
  rw [List.getElem?_map] at h
  cases e : ns[i]? with
  | none => rw [e] at h; cases h
  | some u => rw [e] at h; exact ⟨u, (Option.some.inj h).symm, rfl⟩
theorem scStart : FnScope ["script", "seed", "cell"] ["script"] (defScope sStart) := ⟨rfl, rfl, rfl, by decide +kernel, rfl, by decide +kernel, by decide +kernel⟩
theorem ok_start {f : Addr} {fd : FuncData} (F : Fun K "_law_start" "_law_start" sStart f fd) (T : DicTxt mg) : FnOk P w K mg base CX0 1 f fd ["script"] (spStart K) := by
  refine F.ok scStart (fun vs H Q E h => ?_) (fun cdv A outer s H vs Q E hr h => ?_)
  · obtain ⟨a, ns, rfl, _⟩ := h
    rfl
  · obtain ⟨a, ns, rfl, hS, ln, go⟩ := h
    refine ⟨_, pss_cons (ps_set (i := 1) scStart.nd rfl (Or.inl rfl) pe_int)
      (pss_cons (ps_for PassesOwn.never rfl (pi_list (pv 0)) (pg_name (i := 2) scStart.nd rfl (Or.inl rfl))
        (pss_one (ps_set (i := 1) scStart.nd rfl (Or.inl rfl) (pe_op op_mod (pe_callTy call_int1 (by rfl) T.int (by decide +kernel) (pa_cons (pe_op op_add (pe_op op_mul (pv 1) pe_int) (pv 2)) pa_nil)) pe_int))))
      (pss_one (ps_ret (pe_disp (pps_cons pe_str (pe_callTy call_list_of (by rfl) T.list (by decide +kernel) (pa_cons (pv 0) pa_nil)) (pps_cons pe_str pe_int (pps_cons pe_str (pv 1) (pps_cons pe_str pe_int (pps_cons pe_str pe_int (pps_cons pe_str pe_int (pps_cons pe_str (pv 1) pps_nil))))))) (by rfl) (by rfl) (by simp) (by decide))))), ?_⟩
    refine ⟨_, rfl, a, rfl, ⟨_, hS⟩, for_list (K := K) (a := a) (xs := ns.map V.int) (fun i σ H' => ∃ (m : Int) (v : Option V), σ = [some (.ref a), some (.int m), v] ∧ H' = H) ⟨11, none, rfl, rfl⟩ (fun i σ H' _ ⟨_, _, _, e⟩ => by rw [e]; exact hS) ?_ ?_⟩
    · rintro i y σ H' hi ⟨m, v, rfl, rfl⟩
      obtain ⟨u, rfl, hu⟩ := map_at hi
      exact ⟨_, rfl, _, _, rfl, rfl, .inr (by decide), _, rfl, _, _, rfl, rfl, .inl ⟨_, rfl, _, _, rfl, rfl, (by show (0 : Int) < 1000003; decide), _, _, rfl, rfl⟩⟩
    · rintro σ H' ⟨m, v, rfl, rfl⟩
      intro p np
      have s1 : Same H' (upd H' p (.dK [])) := same_new np
      refine ⟨_, rfl, a, _, rfl, .inl (s1.seq hS), fun l nl => ?_⟩
      have lp : l ≠ p := fun z => by rw [z, upd_same] at nl; cases nl
      refine ⟨_, rfl, _, rfl, (upd_ne lp.symm).trans upd_same, stK (.ref l) 0 m 0 1 0 m, rfl, by show 7 ≤ 15; decide, ?_⟩
      rw [merge_st]
      refine go p l _ (fun b o e => ?_) (StL.put upd_same (by decide) lp)
      have np' := ne_of_none e np
      rw [upd_ne np', upd_ne (ne_of_none (s1 _ _ e) nl)]
      exact s1 _ _ e
end
end CN

set_option Elab.async false
set_option linter.all false
set_option maxRecDepth 100000
set_option maxHeartbeats 4000000
set_option autoImplicit false
set_option pp.maxSteps 600
/-! The names that the law draws. -/
namespace CN
open PySem L2 TL K1D K2P
open K4 (isNm lets lets_iff)
def letsT : Str := "abcdefghijklmnopqrstuvwxyz"
def isNmL (l : List Nat) : Bool := (decide (1 ≤ l.length) && decide (l.length ≤ 4)) && l.all fun c => decide (c ∈ lets)
theorem tl_from (x : Str) (k : Nat) : tl (cutS x (some (k : Int)) none) = (tl x).drop k := by
  unfold cutS
  show List.take _ _ = _
  rw [show HT.sIx x.length 0 (some (k : Int)) = min k x.length from HT.sIx_nat _ _ k, HT.sIx_none, len_tl]
  show List.take _ (List.drop _ (tl x)) = _
  by_cases h : k ≤ (tl x).length
  · rw [Nat.min_eq_left h]
    exact List.take_of_length_le (by rw [List.length_drop]; omega)
  · rw [Nat.min_eq_right (by omega), List.drop_length, List.take_nil, List.drop_of_length_le (by omega)]
theorem tl_upto (x : Str) (k : Nat) : tl (cutS x none (some (k : Int))) = (tl x).take k := by
  unfold cutS
  show List.take _ _ = _
  rw [show HT.sIx x.length x.length (some (k : Int)) = min k x.length from HT.sIx_nat _ _ k, HT.sIx_none, len_tl]
  show List.take _ (List.drop _ (tl x)) = _
  rw [List.drop_zero, Nat.sub_zero]
  by_cases h : k ≤ (tl x).length
  · rw [Nat.min_eq_left h]
  · rw [Nat.min_eq_right (by omega), List.take_length, List.take_of_length_le (by omega)]
theorem in_strs (s : Str) (l : List Str) : inV (.str s) (l.map V.str) = decide (s ∈ l) := by
  unfold inV
  rw [List.any_map]
  have : ∀ y : Str, ((fun y => eqV y (V.str s)) ∘ V.str) y = decide (y = s) := fun y => by
    show (y == s) = _
    by_cases h : y = s
    · rw [h]; simp
    · simp [h]
  rw [show ((fun y => eqV y (V.str s)) ∘ V.str) = fun y => decide (y = s) from funext this]
  by_cases h : s ∈ l
  · rw [decide_eq_true h, List.any_eq_true]
    exact ⟨s, h, decide_eq_true rfl⟩
  · rw [decide_eq_false h, List.any_eq_false]
    intro y hy e
    rw [decide_eq_true_eq] at e
    rw [e] at hy
    exact h hy
theorem flat_strs : ∀ l : List Str, (l.map V.str).all flatV = true
  | [] => rfl
  | x :: l => by rw [List.map_cons, List.all_cons, flat_strs l]; rfl
abbrev sNames : Stmt := K2P.top 65
theorem len_sub : ∀ {a b : List Str}, a.Nodup → (∀ x ∈ a, x ∈ b) → a.length ≤ b.length
  | [], _, _, _ => Nat.zero_le _
  | x :: a, b, nd, h => by
    rw [List.nodup_cons] at nd
    have hx := h x List.mem_cons_self
    have ih := len_sub (b := b.erase x) nd.2 fun y hy => (List.mem_erase_of_ne fun e => nd.1 (by rw [← e]; exact hy)).mpr (h y (List.mem_cons_of_mem _ hy))
    rw [List.length_erase_of_mem hx] at ih
    have := List.length_pos_of_mem hx
    rw [List.length_cons]
    omega
/-- q and the i-th letter behind -/
def mk (q : List Nat) (c i : Nat) : Str := ⟨(q ++ [97 + (c + i) % 26]).toArray⟩
theorem tl_mk2 (q : List Nat) (c i : Nat) : tl (mk q c i) = q ++ [97 + (c + i) % 26] := rfl
theorem mk_inj {q : List Nat} {c i j : Nat} (hi : i < 26) (hj : j < 26) (h : mk q c i = mk q c j) : i = j := by
  have h2 : tl (mk q c i) = tl (mk q c j) := by rw [h]
  rw [tl_mk2, tl_mk2] at h2
  have h3 := List.append_cancel_left h2
  simp only [List.cons.injEq, and_true] at h3
  omega
theorem bump_new {l : List Str} {q : List Nat} {c k : Nat} (hk : k < 26) (hl : l.length = k) (h : ∀ i < k, mk q c i ∈ l) : mk q c k ∉ l := fun z => by
  have nd : ((List.range (k + 1)).map (mk q c)).Nodup := by
    unfold List.Nodup
    rw [List.pairwise_map]
    refine List.Pairwise.imp_of_mem (fun {a b} ha hb n e => n ?_) (List.nodup_range (n := k + 1))
    rw [List.mem_range] at ha hb
    exact mk_inj (by omega) (by omega) e
  have := len_sub nd fun x hx => by
    obtain ⟨i, hi, rfl⟩ := List.mem_map.mp hx
    rw [List.mem_range] at hi
    by_cases e : i = k
    · rw [e]; exact z
    · exact h i (by omega)
  rw [List.length_map, List.length_range] at this
  omega
def LetsAll (l : List Nat) : Prop := ∀ c ∈ l, 97 ≤ c ∧ c ≤ 122
theorem nm_of {l : List Nat} (h : LetsAll l) (h1 : 1 ≤ l.length) (h4 : l.length ≤ 4) : isNmL l = true := by
  unfold isNmL
  simp only [Bool.and_eq_true, decide_eq_true_eq, List.all_eq_true]
  exact ⟨⟨h1, h4⟩, fun c hc => (lets_iff c).mpr (h c hc)⟩
theorem nm_all {l : List Nat} (h : isNmL l = true) : LetsAll l ∧ 1 ≤ l.length ∧ l.length ≤ 4 := by
  unfold isNmL at h
  simp only [Bool.and_eq_true, decide_eq_true_eq, List.all_eq_true] at h
  exact ⟨fun c hc => (lets_iff c).mp (h.2 c hc), h.1.1, h.1.2⟩
theorem let_at {j : Nat} (h : j < 26) : letsT.cps.toList[j]? = some (97 + j) := by
  have : ∀ j < 26, letsT.cps.toList[j]? = some (97 + j) := by decide +kernel
  exact this j h
theorem let_ix {j : Nat} (h : j < 26) : ∃ rest, Builtin.Str.occurrences letsT ⟨#[97 + j]⟩ 0 letsT.length 1 = j :: rest := by
  have : ∀ j < 26, (Builtin.Str.occurrences letsT ⟨#[97 + j]⟩ 0 letsT.length 1).head? = some j := by decide +kernel
  have e := this j h
  cases q : Builtin.Str.occurrences letsT ⟨#[97 + j]⟩ 0 letsT.length 1 with
  | nil => rw [q] at e; cases e
  | cons a r => rw [q] at e; cases e; exact ⟨r, rfl⟩
theorem tl_init (x : Str) {q : List Nat} {c : Nat} (h : tl x = q ++ [c]) : tl (cutS x none (some (-1))) = q := by
  have l : x.length = q.length + 1 := by rw [len_tl, h, List.length_append]; rfl
  have e : cutS x none (some (-1)) = cutS x none (some ((q.length : Nat) : Int)) := by
    unfold cutS
    have e2 : HT.sIx x.length x.length (some (-1)) = HT.sIx x.length x.length (some ((q.length : Nat) : Int)) := by
      rw [HT.sIx_nat, l]
      unfold HT.sIx
      simp
      omega
    rw [e2]
  rw [e, tl_upto, h]
  simp
def spNames : Sp := fun vs H Q _ => ∃ (p l : Addr) (m : Nat), vs = [.ref p, .int m] ∧ StL H p l ∧ m ≤ 20 ∧ ∀ (L : Addr) (ns : List Str) (G : Hp), StL G p l → Bt p H G → H L = none → L ≠ p → G L = some (.lst (ns.map V.str)) → ns.length = m → ns.Nodup → (∀ x ∈ ns, isNmL (tl x) = true) → Q (.ref L) G
section
variable {P : Program} {w : World} {K : PySem.W.Frag} {mg : Str → Option Value} {base : Heap} {fD : Addr} {dD : FuncData}
theorem scNames : FnScope ["state", "many", "letters", "names", "k", "number_v", "name", "place", "again"] ["state", "many"] (defScope sNames) := ⟨rfl, rfl, rfl, by decide +kernel, rfl, by decide +kernel, by decide +kernel⟩
theorem ok_names {f : Addr} {fd : FuncData} (F : Fun K "_law_names" "_law_names" sNames f fd) (T : DicTxt mg) (U : CallT P w K mg base CX0 1 "_law_draw" ["state", "many"] spDraw fD dD) : FnOk P w K mg base CX0 2 f fd ["state", "many"] spNames := by
  refine F.ok scNames (fun vs H Q E h => ?_) (fun cdv A outer s H vs Q E hr h => ?_)
  · obtain ⟨p, l, m, rfl, _⟩ := h
    rfl
  · obtain ⟨p, l, m, rfl, hs, m5, go⟩ := h
    refine ⟨_, pss_cons (ps_set (i := 2) scNames.nd rfl (Or.inl rfl) pe_str)
      (pss_cons (ps_set (i := 3) scNames.nd rfl (Or.inl rfl) (pe_lst pa_nil))
      (pss_cons (ps_for PassesOwn.never rfl (pi_range1 (by rfl) T.range (pa_cons (pv 1) pa_nil)) (pg_name (i := 4) scNames.nd rfl (Or.inl rfl))
        (pss_cons (ps_set (i := 5) scNames.nd rfl (Or.inl rfl) (pe_call U.ok hr rfl U.g U.k U.b .nil pass0 (pa_cons (pv 0) (pa_cons pe_int pa_nil))))
        (pss_cons (ps_set (i := 6) scNames.nd rfl (Or.inl rfl) pe_str)
        (C8.pss_cut (ps_for PassesOwn.never rfl (pi_range1 (by rfl) T.range (pa_cons (pe_op op_add pe_int (pe_call U.ok hr rfl U.g U.k U.b .nil pass0 (pa_cons (pv 0) (pa_cons pe_int pa_nil)))) pa_nil)) (pg_name (i := 7) scNames.nd rfl (Or.inl rfl))
          (pss_cons (ps_set (i := 6) scNames.nd rfl (Or.inl rfl) (pe_op op_add_str (pv 6) (pe_ix ix_str (pv 2) (pe_op op_mod (pe_callTy call_int1 (by rfl) T.int (by decide +kernel) (pa_cons (pv 5) pa_nil)) pe_int) (fun _ _ => rfl))))
          (pss_one (ps_set (i := 5) scNames.nd rfl (Or.inl rfl) (pe_op op_fdiv (pv 5) pe_int)))))
        (C8.pss_cut (ps_if (PW.pt (pw_and (pt_cmpR op_gt (pv 4) pe_int (nomark _)) (pw_and1 (pt_cmpR op_eq (pe_call U.ok hr rfl U.g U.k U.b .nil pass0 (pa_cons (pv 0) (pa_cons pe_int pa_nil))) pe_int (nomark _)))))
          (pss_cons (ps_set (i := 7) scNames.nd rfl (Or.inl rfl) (pe_call U.ok hr rfl U.g U.k U.b .nil pass0 (pa_cons (pv 0) (pa_cons (pe_callB call_len_str (by rfl) T.len PySem.boot_len (pa_cons (pe_ix ix_list (pv 3) pe_int (fun _ _ => rfl)) pa_nil)) pa_nil))))
          (pss_one (ps_set (i := 6) scNames.nd rfl (Or.inl rfl) (pe_op op_add_str (pe_op op_add_str (pe_slice sl_str (pe_ix ix_list (pv 3) pe_int (fun _ _ => rfl)) po_none (po_some (pv 7))) (pe_ix ix_str (pv 6) pe_int (fun _ _ => rfl))) (pe_slice sl_str (pe_ix ix_list (pv 3) pe_int (fun _ _ => rfl)) (po_some (pe_op op_add (pv 7) pe_int)) po_none))))) pss_nil)
        (C8.pss_cut (ps_for PassesOwn.never rfl (pi_range1 (by rfl) T.range (pa_cons (pv 4) pa_nil)) (pg_name (i := 8) scNames.nd rfl (Or.inl rfl))
          (pss_one (ps_if (pt_cmpR op_in_seq (pv 6) (pv 3) (by rfl)) (pss_one (ps_set (i := 6) scNames.nd rfl (Or.inl rfl) (pe_op op_add_str (pe_slice sl_str (pv 6) po_none (po_some (pe_un un_neg pe_int)))
            (pe_ix ix_str (pv 2) (pe_op op_mod (pe_op op_add (pe_m1 PySem.F.slot_str_index PySem.F.type_str_index mt_sindex (pv 2) (pe_ix ix_str (pv 6) (pe_un un_neg pe_int) (fun _ _ => rfl))) pe_int) pe_int) (fun _ _ => rfl))))) pss_nil)))
        (pss_one (ps_expr (pe_bm PySem.F.plainAttrs_list PySem.F.slot_list_append PySem.F.type_list_append mt_append (pv 3) (pa_cons (pv 6) pa_nil))))))))))
      (pss_one (ps_ret (pv 3))))), ?_⟩
    refine ⟨by decide, fun L nL => ?_⟩
    obtain ⟨Lp, Ll⟩ := hs.ne nL
    have s1 := hs.up (o := .lst []) nL
    have b1 : Bt p H (upd H L (.lst [])) := Bt.new nL
    have e1 : upd H L (.lst []) L = some (.lst []) := upd_same
    generalize upd H L (.lst []) = G1 at s1 b1 e1 ⊢
    refine ⟨_, rfl, _, rfl, by omega, by omega, ?_⟩
    rw [Int.toNat_natCast]
    refine for_it (walk_range (lo := 0) (n := m)) (fun i σ G => ∃ (u4 u5 u6 u7 u8 : Option V) (ns : List Str), σ = [some (.ref p), some (.int (m : Int)), some (.str letsT), some (.ref L), u4, u5, u6, u7, u8] ∧ StL G p l ∧ Bt p H G ∧ G L = some (.lst (ns.map V.str)) ∧ ns.length = i ∧ ns.Nodup ∧ ∀ x ∈ ns, isNmL (tl x) = true)
      ⟨none, none, none, none, none, [], rfl, s1, b1, e1, rfl, .nil, fun x hx => by cases hx⟩ (fun _ _ _ _ _ => trivial) (fun i v σ G G' hi ⟨u4, u5, u6, u7, u8, ns, hσ, sG, bG, hL, ln, nd, nm⟩ ⟨e, ev⟩ => ?_) (fun σ G ⟨u4, u5, u6, u7, u8, ns, hσ, sG, bG, hL, ln, nd, nm⟩ => ?_)
    · subst hσ e ev
      show gName 4 (.int (0 + (i : Int))) _ _ _
      rw [Int.zero_add]
      refine ⟨_, rfl, p, l, 456976, rfl, sG, by decide, by decide, fun nu G2 nu0 nu1 s2 b2 => ?_⟩
      have hL2 := b2 _ _ Lp hL
      refine ⟨fun σ F => ∃ (nu : Int) (x : Str) (u7 : Option V), σ = [some (.ref p), some (.int (m : Int)), some (.str letsT), some (.ref L), some (.int (i : Int)), some (.int nu), some (.str x), u7, u8] ∧ StL F p l ∧ Bt p H F ∧ F L = some (.lst (ns.map V.str)) ∧ LetsAll (tl x) ∧ 1 ≤ (tl x).length ∧ (tl x).length ≤ 4, ?_, ?_⟩
      · refine ⟨_, rfl, p, l, 4, rfl, s2, by decide, by decide, fun d G3 d0 d4 s3 b3 => ⟨_, _, rfl, rfl, _, rfl, by omega, by omega, ?_⟩⟩
        refine for_it (walk_range (lo := 0) (n := (1 + d).toNat)) (fun j σ F => ∃ (nu : Int) (x : Str) (u7 : Option V), σ = [some (.ref p), some (.int (m : Int)), some (.str letsT), some (.ref L), some (.int (i : Int)), some (.int nu), some (.str x), u7, u8] ∧ F = G3 ∧ LetsAll (tl x) ∧ (tl x).length = j)
          ⟨nu, "", u7, rfl, rfl, (by rw [show tl ("" : Str) = [] from by decide +kernel]; exact fun c hc => by cases hc), by decide +kernel⟩ (fun _ _ _ _ _ => trivial) (fun j v σ F F' hj ⟨nu, x, u7, hσ, hF, la, lj⟩ ⟨e, ev⟩ => ?_) (fun σ F ⟨nu, x, u7, hσ, hF, la, lj⟩ => ?_)
        · subst hσ e ev hF
          have z0 := Int.emod_nonneg nu (show (26 : Int) ≠ 0 by decide)
          have z1 := Int.emod_lt_of_pos nu (show (0 : Int) < 26 by decide)
          obtain ⟨c, hc⟩ : ∃ c : Nat, nu % 26 = c := ⟨(nu % 26).toNat, by omega⟩
          have lx : x.length ≤ 4 := by rw [len_tl]; omega
          refine ⟨_, rfl, _, rfl, _, rfl, .inl ⟨_, rfl, _, _, rfl, rfl, (by show (0 : Int) < 26; decide), _, _, 97 + c, rfl, rfl, by rw [sizeLine_eq]; decide, by rw [hc]; exact atI_nat (let_at (by omega)), _, _, rfl, rfl, ?_, ?_⟩⟩
          · show x.length + 1 ≤ _
            rw [sizeLine_eq]
            omega
          · refine ⟨_, rfl, _, _, rfl, rfl, ⟨by decide, by decide⟩, _, _, _, rfl, rfl, ?_, ?_⟩
            · rw [tl_append]
              intro a ha
              rcases List.mem_append.mp ha with ha | ha
              · exact la a ha
              · rw [List.mem_singleton.mp (show a ∈ [97 + c] from ha)]
                omega
            · rw [tl_append, List.length_append]
              show _ + 1 = _
              omega
        · subst hσ hF
          exact ⟨nu, x, u7, rfl, s3, bG.trans (b2.trans b3), b3 _ _ Lp hL2, la, by omega, by omega⟩
      · rintro σ F ⟨nu, x, u7, rfl, sF, bF, hF, la, l1, l4⟩
        have lx : x.length ≤ 4 := by rw [len_tl]; omega
        refine ⟨fun σ F => ∃ (nu : Int) (x : Str) (u7 : Option V), σ = [some (.ref p), some (.int (m : Int)), some (.str letsT), some (.ref L), some (.int (i : Int)), some (.int nu), some (.str x), u7, u8] ∧ StL F p l ∧ Bt p H F ∧ F L = some (.lst (ns.map V.str)) ∧ isNmL (tl x) = true, ?_, ?_⟩
        · refine ⟨_, rfl, _, _, rfl, rfl, _, rfl, ?_⟩
          by_cases i0 : 0 < i
          · refine ifY (decide_eq_true (by omega)) ⟨_, rfl, p, l, 2, rfl, sF, by decide, by decide, fun z F2 y0 y1 sF2 bF2 => ⟨rfl, _, rfl, ?_⟩⟩
            have hF2 := bF2 _ _ Lp hF
            refine ite2 (fun _ => ?_) (fun _ => ⟨nu, x, u7, rfl, sF2, bF.trans bF2, hF2, nm_of la l1 l4⟩)
            obtain ⟨n0, r0, en⟩ : ∃ n0 r0, ns = n0 :: r0 := by
              cases ns with
              | nil => rw [List.length_nil] at ln; omega
              | cons a b => exact ⟨a, b, rfl⟩
            obtain ⟨a0, a1, a4⟩ := nm_all (nm n0 (by rw [en]; exact List.mem_cons_self))
            have ln0 := len_tl n0
            have at0 : atI (ns.map V.str) ((0 : Nat) : Int) = some (V.str n0) := atI_nat (by rw [en]; rfl)
            obtain ⟨c, r, ex⟩ : ∃ c r, tl x = c :: r := by
              cases q : tl x with
              | nil => rw [q] at l1; simp at l1
              | cons c r => exact ⟨c, r, rfl⟩
            refine ⟨_, rfl, _, rfl, L, _, _, _, rfl, rfl, SqL.of hF2, at0, n0, rfl, by rw [sizeLine_eq]; omega, p, l, _, rfl, sF2, by omega, by omega, fun pl F3 q0 q1 sF3 bF3 => ?_⟩
            have hF3 := bF3 _ _ Lp hF2
            obtain ⟨pn, rfl⟩ : ∃ pn : Nat, pl = pn := ⟨pl.toNat, by omega⟩
            have t1 := tl_upto n0 pn
            have t2 := tl_from n0 (pn + 1)
            have lc1 := cutS_length n0 none (some (pn : Int))
            have lc2 := cutS_length n0 (some ((pn + 1 : Nat) : Int)) none
            refine ⟨_, rfl, L, _, _, _, rfl, rfl, SqL.of hF3, at0, _, rfl, _, rfl, n0, rfl, by rw [sizeLine_eq]; omega, _, rfl, x, _, c, rfl, rfl, by rw [sizeLine_eq]; omega, (show atI _ ((0 : Nat) : Int) = some c from atI_nat (by rw [show x.cps.toList = c :: r from ex]; rfl)), _, _, rfl, rfl, ?_, ?_⟩
            · show (cutS n0 none (some (pn : Int))).length + 1 ≤ _
              rw [sizeLine_eq]; omega
            · refine ⟨_, rfl, L, _, _, _, rfl, rfl, SqL.of hF3, at0, _, rfl, _, _, rfl, rfl, _, rfl, n0, rfl, by rw [sizeLine_eq]; omega, _, _, rfl, rfl, ?_, ?_⟩
              · show (cutS n0 none (some (pn : Int)) ++ ⟨#[c]⟩).length + (cutS n0 (some ((pn + 1 : Nat) : Int)) none).length ≤ _
                rw [strLen_append, sizeLine_eq]
                show _ + 1 + _ ≤ _
                omega
              · refine ⟨nu, _, _, rfl, sF3, bF.trans (bF2.trans bF3), hF3, ?_⟩
                show isNmL (tl (cutS n0 none (some (pn : Int)) ++ ⟨#[c]⟩ ++ cutS n0 (some ((pn + 1 : Nat) : Int)) none)) = true
                rw [tl_append, tl_append, t1, t2]
                refine nm_of ?_ ?_ ?_
                · intro b hb
                  rcases List.mem_append.mp hb with hb | hb
                  · rcases List.mem_append.mp hb with hb | hb
                    · exact a0 b (List.mem_of_mem_take hb)
                    · rw [List.mem_singleton.mp (show b ∈ [c] from hb)]
                      exact la c (by rw [ex]; exact List.mem_cons_self)
                  · exact a0 b (List.mem_of_mem_drop hb)
                · rw [List.length_append, List.length_append]
                  show 1 ≤ _ + 1 + _
                  omega
                · rw [List.length_append, List.length_append, List.length_take, List.length_drop]
                  show _ + 1 + _ ≤ 4
                  omega
          · exact ifN (decide_eq_false (by omega)) (ifN rfl ⟨nu, x, u7, rfl, sF, bF, hF, nm_of la l1 l4⟩)
        · rintro σ F ⟨nu, x, u7, rfl, sF, bF, hF, nx⟩
          obtain ⟨xa, x1, x4⟩ := nm_all nx
          obtain ⟨q, c0, hc0, ex⟩ : ∃ q c0, c0 < 26 ∧ x = mk q c0 0 := by
            have ne : tl x ≠ [] := fun z => by rw [z] at x1; simp at x1
            have hl := xa _ (List.getLast_mem ne)
            refine ⟨(tl x).dropLast, (tl x).getLast ne - 97, by omega, ext_tl ?_⟩
            rw [tl_mk2, show 97 + ((tl x).getLast ne - 97 + 0) % 26 = (tl x).getLast ne by omega]
            exact (List.dropLast_concat_getLast ne).symm
          have qa : LetsAll q ∧ q.length ≤ 3 := by
            rw [ex, tl_mk2] at xa x4
            refine ⟨fun a ha => xa a (List.mem_append_left _ ha), ?_⟩
            rw [List.length_append] at x4
            have : ([97 + (c0 + 0) % 26] : List Nat).length = 1 := rfl
            omega
          have mkn : ∀ t, isNmL (tl (mk q c0 t)) = true := fun t => by
            rw [tl_mk2]
            refine nm_of (fun a ha => ?_) (by rw [List.length_append]; show 1 ≤ _ + 1; omega) (by rw [List.length_append]; show _ + 1 ≤ 4; omega)
            rcases List.mem_append.mp ha with ha | ha
            · exact qa.1 a ha
            · rw [List.mem_singleton.mp ha]
              omega
          refine ⟨fun σ F2 => ∃ (x : Str) (u8 : Option V), σ = [some (.ref p), some (.int (m : Int)), some (.str letsT), some (.ref L), some (.int (i : Int)), some (.int nu), some (.str x), u7, u8] ∧ F2 = F ∧ isNmL (tl x) = true ∧ x ∉ ns, ?_, ?_⟩
          · refine ⟨_, rfl, _, rfl, by omega, by omega, ?_⟩
            rw [Int.toNat_natCast]
            refine for_it (walk_range (lo := 0) (n := i)) (fun j σ F2 => ∃ (t : Nat) (u8 : Option V), σ = [some (.ref p), some (.int (m : Int)), some (.str letsT), some (.ref L), some (.int (i : Int)), some (.int nu), some (.str (mk q c0 t)), u7, u8] ∧ F2 = F ∧ (mk q c0 t ∉ ns ∨ (t = j ∧ ∀ t' < j, mk q c0 t' ∈ ns)))
              ⟨0, u8, by rw [ex], rfl, .inr ⟨rfl, fun t' h => by omega⟩⟩ (fun _ _ _ _ _ => trivial) (fun j v σ F2 F3 hj ⟨t, u8, hσ, hF2, inv⟩ ⟨e, ev⟩ => ?_) (fun σ F2 ⟨t, u8, hσ, hF2, inv⟩ => ?_)
            · subst hσ e ev hF2
              refine ⟨_, rfl, _, rfl, L, _, rfl, .inl (SqL.of hF), rfl, flat_strs _, _, rfl, ?_⟩
              rw [if_neg Bool.false_ne_true, in_strs]
              by_cases hm : mk q c0 t ∈ ns
              · rcases inv with inv | ⟨rfl, inv⟩
                · exact absurd hm inv
                have lq : (mk q c0 t).length ≤ 4 := by rw [len_tl]; exact (nm_all (mkn t)).2.2
                obtain ⟨rest, occ⟩ := let_ix (j := (c0 + t) % 26) (by omega)
                have lc := cutS_length (mk q c0 t) none (some (-1))
                refine ifY (decide_eq_true hm) ⟨_, rfl, _, rfl, _, rfl, mk q c0 t, rfl, by rw [sizeLine_eq]; omega, ?_⟩
                refine ⟨_, rfl, _, rfl, ⟨_, rfl⟩, _, rfl, _, rfl, mk q c0 t, _, 97 + (c0 + t) % 26, rfl, rfl, by rw [sizeLine_eq]; omega, atI_last q (97 + (c0 + t) % 26), letsT, _, (c0 + t) % 26, rest, rfl, rfl, occ, ?_⟩
                refine ⟨_, _, rfl, rfl, _, _, rfl, rfl, (by show (0 : Int) < 26; decide), _, _, 97 + (c0 + (t + 1)) % 26, rfl, rfl, by rw [sizeLine_eq]; decide, ?_, _, _, rfl, rfl, ?_, ?_⟩
                · rw [show ((((c0 + t) % 26 : Nat) : Int) + 1) % 26 = (((c0 + (t + 1)) % 26 : Nat) : Int) by omega]
                  exact atI_nat (let_at (by omega))
                · show (cutS (mk q c0 t) none (some (-1))).length + 1 ≤ _
                  rw [sizeLine_eq]; omega
                · refine ⟨t + 1, some (.int (0 + (t : Int))), ?_, rfl, .inr ⟨rfl, fun t' h => ?_⟩⟩
                  · have e7 : cutS (mk q c0 t) none (some (-1)) ++ ⟨#[97 + (c0 + (t + 1)) % 26]⟩ = mk q c0 (t + 1) := ext_tl (by
                      rw [tl_append, tl_init _ (tl_mk2 q c0 t), tl_mk2])
                    show List.set _ 6 (some (V.str (cutS (mk q c0 t) none (some (-1)) ++ ⟨#[97 + (c0 + (t + 1)) % 26]⟩))) = _
                    rw [e7]
                    rfl
                  · by_cases e8 : t' = t
                    · rw [e8]; exact hm
                    · exact inv t' (by omega)
              · exact ifN (decide_eq_false hm) ⟨t, _, rfl, rfl, .inl hm⟩
            · subst hσ hF2
              refine ⟨_, _, rfl, rfl, mkn t, ?_⟩
              rcases inv with inv | ⟨rfl, inv⟩
              · exact inv
              · exact bump_new (by omega) ln inv
          · rintro σ F2 ⟨y, u8', rfl, rfl, ny, hy⟩
            refine ⟨_, rfl, .inl ⟨rfl, _, SqL.of hF⟩, _, rfl, L, _, _, rfl, rfl, hF, by rw [List.length_map, sizeLine_eq]; omega, ?_⟩
            refine ⟨_, _, _, _, _, ns ++ [y], rfl, sF.set Lp Ll, bF.set nL, ?_, by rw [List.length_append, ln]; rfl, ?_, fun z hz => ?_⟩
            · rw [upd_same, List.map_append]
              rfl
            · rw [List.nodup_append]
              refine ⟨nd, by simp, fun a ha b hb e => ?_⟩
              rw [List.mem_singleton.mp hb] at e
              rw [e] at ha
              exact hy ha
            · rcases List.mem_append.mp hz with hz | hz
              · exact nm z hz
              · rw [List.mem_singleton.mp hz]; exact ny
    · subst hσ
      exact ⟨_, rfl, go L ns G sG bG nL Lp hL ln nd nm⟩
end
end CN

set_option Elab.async false
set_option linter.all false
set_option maxRecDepth 100000
set_option maxHeartbeats 4000000
set_option autoImplicit false
set_option pp.maxSteps 600
/-! The law's own comparison of what the program told with what is due. -/
namespace CN
open PySem L2 TL K1D K2P
open K4 (isNm lets lets_iff)
abbrev sSame : Stmt := K2P.top 64
/-- x and y hold the same, at most n deep -/
inductive Alike (H : Hp) : Nat → V → V → Prop
  | non (n : Nat) : Alike H n .non .non
  | int (n : Nat) (i : Int) : Alike H n (.int i) (.int i)
  | str (n : Nat) (x : Str) : Alike H n (.str x) (.str x)
  | tup {n : Nat} {p q : Addr} {xs ys : List V} (hp : H p = some (.tup xs)) (hq : H q = some (.tup ys)) (l : xs.length = ys.length) (s : xs.length ≤ sizeLine) (h : ∀ (i : Nat) (x y : V), xs[i]? = some x → ys[i]? = some y → Alike H n x y) : Alike H (n + 1) (.ref p) (.ref q)
theorem Alike.up {H H' : Hp} (sm : Same H H') : ∀ {n : Nat} {x y : V}, Alike H n x y → Alike H' n x y := by
  intro n x y h
  induction h with
  | non n => exact .non n
  | int n i => exact .int n i
  | str n x => exact .str n x
  | tup hp hq l s _ ih => exact .tup (sm _ _ hp) (sm _ _ hq) l s ih
def spSame (n : Nat) : Sp := fun vs H Q _ => ∃ x y : V, vs = [x, y] ∧ Alike H n x y ∧ ∀ H', Same H H' → Q (.bl true) H'
structure SameTxt (K : PySem.W.Frag) (mg : Str → Option Value) (fS : Addr) : Prop where
  isinst : mg "isinstance" = none
  tuple : mg "tuple" = none
  list : mg "list" = none
  str : mg "str" = none
  bool : mg "bool" = none
  int : mg "int" = none
  len : mg "len" = none
  range : mg "range" = none
  gS : mg "_law_same" = some (.ref fS)
  kS : PySem.W.keepIn K (.ref fS) = true
section
variable {P : Program} {w : World} {K : PySem.W.Frag} {mg : Str → Option Value} {base : Heap} {fS : Addr}
theorem scS : FnScope ["actual", "due", "k"] ["actual", "due"] (defScope sSame) := ⟨rfl, rfl, rfl, by decide +kernel, rfl, by decide +kernel, by decide +kernel⟩
def rIsV : R2 := fun x y H Q => y = .non ∧ Q (.bl (decide (x = .non))) H
def tTail (K : PySem.W.Frag) : TS := tSeq (tIfS (tTest (tOp rIsV (tVar 1) (tC .non))) (tRet (tOp rIsV (tVar 0) (tC .non))) tNext) (tSeq (tIfS (tTest (tI K 1 "bool")) (tRet (tAndV (tI K 0 "bool") (tOp rEq (tVar 0) (tVar 1)))) tNext) (tSeq (tIfS (tTest (tI K 1 "str")) (tRet (tAndV (tI K 0 "str") (tOp rEq (tVar 0) (tVar 1)))) tNext)
      (tRet (tAndV (tI K 0 "int") (tAndV (tNotV (tI K 0 "bool")) (tOp rEq (tVar 0) (tVar 1)))))))
theorem leaf {σ : L2.St} {H : Hp} {D : Ends} {x y : V} {n : Nat} (al : Alike H n x y) (h0 : σ[0]? = some (some x)) (h1 : σ[1]? = some (some y)) (nt : ∀ p, y ≠ .ref p) (go : D.rt (.bl true) H) : tTail K D σ H := by
  cases al with
  | non n => exact ⟨_, h1, rfl, _, rfl, ifY (by decide) ⟨_, h0, rfl, go⟩⟩
  | str n z =>
    refine ⟨_, h1, rfl, _, rfl, ifN (by simp) ?_⟩
    refine isi h1 (.str z) (by decide +kernel) ⟨_, rfl, ifN rfl ?_⟩
    refine isi h1 (.str z) (by decide +kernel) ⟨_, rfl, ifY rfl ?_⟩
    refine isi h0 (.str z) (by decide +kernel) ⟨true, rfl, ifY rfl ⟨_, h0, _, h1, rfl, ?_⟩⟩
    rw [decide_eq_true (rfl : V.str z = V.str z)]
    exact go
  | int n z =>
    refine ⟨_, h1, rfl, _, rfl, ifN (by simp) ?_⟩
    refine isi h1 (.int z) (by decide +kernel) ⟨_, rfl, ifN rfl ?_⟩
    refine isi h1 (.int z) (by decide +kernel) ⟨_, rfl, ifN rfl ?_⟩
    refine isi h0 (.int z) (by decide +kernel) ⟨true, rfl, ifY rfl ?_⟩
    refine isi h0 (.int z) (by decide +kernel) ⟨false, rfl, true, rfl, ifY rfl ⟨_, h0, _, h1, rfl, ?_⟩⟩
    rw [decide_eq_true (rfl : V.int z = V.int z)]
    exact go
  | tup _ _ _ _ _ => exact absurd rfl (nt _)
theorem Alike.ty {H : Hp} {n : Nat} {x y : V} (al : Alike H n x y) (nt : ∀ p, y ≠ .ref p) : ∃ a, TyOf K H y (.type a) ∧ kitB a "tuple" = some false ∧ kitB a "list" = some false := by
  cases al with
  | non n => exact ⟨_, .non, by decide +kernel, by decide +kernel⟩
  | str n z => exact ⟨_, .str z, by decide +kernel, by decide +kernel⟩
  | int n z => exact ⟨_, .int z, by decide +kernel, by decide +kernel⟩
  | tup _ _ _ _ _ => exact absurd rfl (nt _)
theorem ok_same0 {fd : FuncData} (F : Fun K "_law_same" "_law_same" sSame fS fd) (T : SameTxt K mg fS) : FnOk P w K mg base CX0 1 fS fd ["actual", "due"] (spSame 0) := by
  refine F.ok scS (fun vs H Q E h => ?_) (fun cdv A outer s H vs Q E hr h => ?_)
  · obtain ⟨x, y, rfl, _⟩ := h
    rfl
  · obtain ⟨x, y, rfl, al, go⟩ := h
    have nt : ∀ p, y ≠ .ref p := fun p z => by
      subst z
      cases al
    refine ⟨_, pss_cons (ps_if (PW.pt (pw_or (pt_val (pe_callB call_isi (by rfl) T.isinst (by decide +kernel) (pa_cons (pv 1) (pa_cons (pe_bltn (v := .ty "tuple") (u := .type "tuple") (by rfl) T.tuple (by decide +kernel) (by exact rfl)) pa_nil)))) (pw_or1 (pt_val (pe_callB call_isi (by rfl) T.isinst (by decide +kernel) (pa_cons (pv 1) (pa_cons (pe_bltn (v := .ty "list") (u := .type "list") (by rfl) T.list (by decide +kernel) (by exact rfl)) pa_nil))))))) pss_never pss_nil)
      (pss_cons (ps_if (pt_cmpR op_isN (pv 1) pe_non (nomark _)) (pss_one (ps_ret (pe_cmpR op_isN (pv 0) pe_non (nomark _)))) pss_nil)
      (pss_cons (ps_if (pt_val (pe_callB call_isi (by rfl) T.isinst (by decide +kernel) (pa_cons (pv 1) (pa_cons (pe_bltn (v := .ty "bool") (u := .type "bool") (by rfl) T.bool (by decide +kernel) (by exact rfl)) pa_nil)))) (pss_one (ps_ret (pe_and (pe_callB call_isi (by rfl) T.isinst (by decide +kernel) (pa_cons (pv 0) (pa_cons (pe_bltn (v := .ty "bool") (u := .type "bool") (by rfl) T.bool (by decide +kernel) (by exact rfl)) pa_nil))) (pe_one (pe_cmpR op_eq (pv 0) (pv 1) (nomark _)))))) pss_nil)
      (pss_cons (ps_if (pt_val (pe_callB call_isi (by rfl) T.isinst (by decide +kernel) (pa_cons (pv 1) (pa_cons (pe_bltn (v := .ty "str") (u := .type "str") (by rfl) T.str (by decide +kernel) (by exact rfl)) pa_nil)))) (pss_one (ps_ret (pe_and (pe_callB call_isi (by rfl) T.isinst (by decide +kernel) (pa_cons (pv 0) (pa_cons (pe_bltn (v := .ty "str") (u := .type "str") (by rfl) T.str (by decide +kernel) (by exact rfl)) pa_nil))) (pe_one (pe_cmpR op_eq (pv 0) (pv 1) (nomark _)))))) pss_nil)
      (pss_one (ps_ret (pe_and (pe_callB call_isi (by rfl) T.isinst (by decide +kernel) (pa_cons (pv 0) (pa_cons (pe_bltn (v := .ty "int") (u := .type "int") (by rfl) T.int (by decide +kernel) (by exact rfl)) pa_nil))) (pe_and (pe_not (pe_callB call_isi (by rfl) T.isinst (by decide +kernel) (pa_cons (pv 0) (pa_cons (pe_bltn (v := .ty "bool") (u := .type "bool") (by rfl) T.bool (by decide +kernel) (by exact rfl)) pa_nil)))) (pe_one (pe_cmpR op_eq (pv 0) (pv 1) (nomark _)))))))))), ?_⟩
    obtain ⟨a, ty, k1, k2⟩ := al.ty (K := K) nt
    refine isi (K := K) rfl ty k1 ⟨_, rfl, ifN rfl ?_⟩
    refine isi (K := K) rfl ty k2 ⟨_, rfl, ifN rfl ?_⟩
    show tTail K _ _ H
    exact leaf (K := K) al rfl rfl nt (go H (Same.refl H))
theorem ok_sameS {n k : Nat} {fd : FuncData} (F : Fun K "_law_same" "_law_same" sSame fS fd) (bS : Binds K fd ["actual", "due"] []) (T : SameTxt K mg fS) (G : FnOk P w K mg base CX0 k fS fd ["actual", "due"] (spSame n)) : FnOk P w K mg base CX0 (k + 1) fS fd ["actual", "due"] (spSame (n + 1)) := by
  refine F.ok scS (fun vs H Q E h => ?_) (fun cdv A outer s H vs Q E hr h => ?_)
  · obtain ⟨x, y, rfl, _⟩ := h
    rfl
  · obtain ⟨x, y, rfl, al, go⟩ := h
    refine ⟨_, pss_cons (ps_if (PW.pt (pw_or (pt_val (pe_callB call_isi (by rfl) T.isinst (by decide +kernel) (pa_cons (pv 1) (pa_cons (pe_bltn (v := .ty "tuple") (u := .type "tuple") (by rfl) T.tuple (by decide +kernel) (by exact rfl)) pa_nil)))) (pw_or1 (pt_val (pe_callB call_isi (by rfl) T.isinst (by decide +kernel) (pa_cons (pv 1) (pa_cons (pe_bltn (v := .ty "list") (u := .type "list") (by rfl) T.list (by decide +kernel) (by exact rfl)) pa_nil))))))) (pss_cons (ps_if (PW.pt (pw_or (pt_cmpR op_ne (pe_callB call_isi (by rfl) T.isinst (by decide +kernel) (pa_cons (pv 1) (pa_cons (pe_bltn (v := .ty "tuple") (u := .type "tuple") (by rfl) T.tuple (by decide +kernel) (by exact rfl)) pa_nil))) (pe_callB call_isi (by rfl) T.isinst (by decide +kernel) (pa_cons (pv 0) (pa_cons (pe_bltn (v := .ty "tuple") (u := .type "tuple") (by rfl) T.tuple (by decide +kernel) (by exact rfl)) pa_nil))) (nomark _)) (pw_or1 (pt_cmpR op_ne (pe_callB call_isi (by rfl) T.isinst (by decide +kernel) (pa_cons (pv 1) (pa_cons (pe_bltn (v := .ty "list") (u := .type "list") (by rfl) T.list (by decide +kernel) (by exact rfl)) pa_nil))) (pe_callB call_isi (by rfl) T.isinst (by decide +kernel) (pa_cons (pv 0) (pa_cons (pe_bltn (v := .ty "list") (u := .type "list") (by rfl) T.list (by decide +kernel) (by exact rfl)) pa_nil))) (nomark _))))) (pss_one (ps_ret (pe_bl))) pss_nil)
        (pss_cons (ps_if (pt_cmpR op_ne (pe_callB call_len_seq (by rfl) T.len PySem.boot_len (pa_cons (pv 0) pa_nil)) (pe_callB call_len_seq (by rfl) T.len PySem.boot_len (pa_cons (pv 1) pa_nil)) (nomark _)) (pss_one (ps_ret (pe_bl))) pss_nil)
        (pss_cons (ps_for PassesOwn.never rfl (pi_range1 (by rfl) T.range (pa_cons (pe_callB call_len_seq (by rfl) T.len PySem.boot_len (pa_cons (pv 1) pa_nil)) pa_nil)) (pg_name (i := 2) scS.nd rfl (Or.inl rfl))
          (pss_one (ps_if (pt_not (pt_val (pe_call G hr rfl T.gS T.kS bS .nil pass0 (pa_cons (pe_ix ix_tup (pv 0) (pv 2) (fun _ _ => rfl)) (pa_cons (pe_ix ix_tup (pv 1) (pv 2) (fun _ _ => rfl)) pa_nil))))) (pss_one (ps_ret (pe_bl))) pss_nil)))
        (pss_one (ps_ret (pe_bl)))))) pss_nil)
      (pss_cons (ps_if (pt_cmpR op_isN (pv 1) pe_non (nomark _)) (pss_one (ps_ret (pe_cmpR op_isN (pv 0) pe_non (nomark _)))) pss_nil)
      (pss_cons (ps_if (pt_val (pe_callB call_isi (by rfl) T.isinst (by decide +kernel) (pa_cons (pv 1) (pa_cons (pe_bltn (v := .ty "bool") (u := .type "bool") (by rfl) T.bool (by decide +kernel) (by exact rfl)) pa_nil)))) (pss_one (ps_ret (pe_and (pe_callB call_isi (by rfl) T.isinst (by decide +kernel) (pa_cons (pv 0) (pa_cons (pe_bltn (v := .ty "bool") (u := .type "bool") (by rfl) T.bool (by decide +kernel) (by exact rfl)) pa_nil))) (pe_one (pe_cmpR op_eq (pv 0) (pv 1) (nomark _)))))) pss_nil)
      (pss_cons (ps_if (pt_val (pe_callB call_isi (by rfl) T.isinst (by decide +kernel) (pa_cons (pv 1) (pa_cons (pe_bltn (v := .ty "str") (u := .type "str") (by rfl) T.str (by decide +kernel) (by exact rfl)) pa_nil)))) (pss_one (ps_ret (pe_and (pe_callB call_isi (by rfl) T.isinst (by decide +kernel) (pa_cons (pv 0) (pa_cons (pe_bltn (v := .ty "str") (u := .type "str") (by rfl) T.str (by decide +kernel) (by exact rfl)) pa_nil))) (pe_one (pe_cmpR op_eq (pv 0) (pv 1) (nomark _)))))) pss_nil)
      (pss_one (ps_ret (pe_and (pe_callB call_isi (by rfl) T.isinst (by decide +kernel) (pa_cons (pv 0) (pa_cons (pe_bltn (v := .ty "int") (u := .type "int") (by rfl) T.int (by decide +kernel) (by exact rfl)) pa_nil))) (pe_and (pe_not (pe_callB call_isi (by rfl) T.isinst (by decide +kernel) (pa_cons (pv 0) (pa_cons (pe_bltn (v := .ty "bool") (u := .type "bool") (by rfl) T.bool (by decide +kernel) (by exact rfl)) pa_nil)))) (pe_one (pe_cmpR op_eq (pv 0) (pv 1) (nomark _)))))))))), ?_⟩
    by_cases nt : ∀ p, y ≠ .ref p
    · obtain ⟨a, ty, k1, k2⟩ := al.ty (K := K) nt
      refine isi (K := K) rfl ty k1 ⟨_, rfl, ifN rfl ?_⟩
      refine isi (K := K) rfl ty k2 ⟨_, rfl, ifN rfl ?_⟩
      show tTail K _ _ H
      exact leaf (K := K) al rfl rfl nt (go H (Same.refl H))
    · cases al with
      | non => exact absurd (fun p z => by cases z) nt
      | int _ i => exact absurd (fun p z => by cases z) nt
      | str _ x => exact absurd (fun p z => by cases z) nt
      | tup hp hq l sz h =>
        rename_i p q xs ys
        refine isi (K := K) (b := true) rfl (.tup hq) (by decide +kernel) ⟨_, rfl, ifY rfl ?_⟩
        refine isi (K := K) (b := true) rfl (.tup hq) (by decide +kernel) (isi (K := K) (b := true) rfl (.tup hp) (by decide +kernel) ⟨rfl, _, rfl, ifN (by decide) ?_⟩)
        refine isi (K := K) (b := false) rfl (.tup hq) (by decide +kernel) (isi (K := K) (b := false) rfl (.tup hp) (by decide +kernel) ⟨rfl, _, rfl, ifN (by decide) ?_⟩)
        refine ⟨_, rfl, p, xs, rfl, .inr (SqT.of hp), _, rfl, q, ys, rfl, .inr (SqT.of hq), rfl, _, rfl, ifN (by rw [l]; simp) ?_⟩
        refine ⟨_, rfl, q, ys, rfl, .inr (SqT.of hq), (ys.length : Int), rfl, by omega, by rw [sizeLine_eq] at sz; omega, for_range (lo := 0) (n := ys.length) (fun i σ G => ∃ u, σ = [some (.ref p), some (.ref q), u] ∧ Same H G) ⟨_, rfl, Same.refl H⟩ (fun i σ G hi ⟨u, hσ, sG⟩ => ?_) (fun σ G ⟨u, hσ, sG⟩ => ?_)⟩
        · subst hσ
          have hx : xs[i]? = some (xs[i]'(by omega)) := by simp
          have hy : ys[i]? = some ys[i] := by simp
          refine ⟨_, rfl, _, rfl, p, xs, _, _, rfl, rfl, SqT.of (sG _ _ hp), at_of (Int.zero_add _) hx, _, rfl, _, rfl, q, ys, _, _, rfl, rfl, SqT.of (sG _ _ hq), at_of (Int.zero_add _) hy, _, _, rfl, (h i _ _ hx hy).up sG, fun G2 s2 => ⟨true, rfl, ?_⟩⟩
          exact ifN rfl ⟨_, rfl, sG.trans s2⟩
        · subst hσ
          exact go G sG
end
end CN

set_option Elab.async false
set_option linter.all false
set_option maxRecDepth 100000
set_option maxHeartbeats 4000000
set_option autoImplicit false
set_option pp.maxSteps 600
/-! The law's steps: which can be made. Maths. -/
namespace CN
open PySem L2 K1D K2P
open K4 (isNm)
/-- of weight w -/
structure Lt (w : Nat) (p : P3) : Prop where
  cx : cnt p.x + 1 ≤ 2 * 2 ^ w
  cy : cnt p.y + 1 ≤ 2 * 2 ^ w
  cw : cnt p.w = 1
  dx : dg p.x ≤ 2 * w + 1
  dy : dg p.y ≤ 2 * w + 1
  dw : dg p.w ≤ 2 * w + 1
  nx : nb 7 p.x ≤ 300 * w + 100
  ny : nb 7 p.y ≤ 300 * w + 100
  nw : nb 7 p.w ≤ 300 * w + 100
  pw : ∀ v, 0 < evX v p.w
theorem Lt.mono {w u : Nat} {p : P3} (h : Lt w p) (l : w ≤ u) : Lt u p := by
  have e : 2 ^ w ≤ 2 ^ u := Nat.pow_le_pow_right (by decide) l
  obtain ⟨a, b, c, d, e1, f, g, i, j, k⟩ := h
  exact ⟨by omega, by omega, c, by omega, by omega, by omega, by omega, by omega, by omega, k⟩
theorem pow_one_add (a b : Nat) : 2 ^ (1 + (a + b)) = 2 * (2 ^ a * 2 ^ b) := by rw [Nat.pow_add, Nat.pow_add]
theorem two_le_mul {x y : Nat} (hx : 1 ≤ x) (hy : 1 ≤ y) : x + y ≤ x * y + 1 := by
  obtain ⟨a, rfl⟩ : ∃ a, x = a + 1 := ⟨x - 1, by omega⟩
  obtain ⟨b, rfl⟩ : ∃ b, y = b + 1 := ⟨y - 1, by omega⟩
  rw [Nat.add_mul, Nat.mul_add]
  omega
theorem lt_free {i j : Nat} : Lt 0 (placedX (.var i) (.var j)) := by
  refine ⟨?_, ?_, rfl, ?_, ?_, ?_, ?_, ?_, ?_, fun _ => by show (0 : Int) < 1; decide⟩
  · show 1 + 1 ≤ 2 * 2 ^ 0; decide
  · show 1 + 1 ≤ 2 * 2 ^ 0; decide
  · show 1 ≤ 1; decide
  · show 1 ≤ 1; decide
  · show 0 ≤ 1; decide
  · show 1 ≤ 100; decide
  · show 1 ≤ 100; decide
  · show 7 ≤ 100; decide
section
variable {a b q : P3} {wa wb wq i : Nat} {n d : Int}
theorem lt_slid (A : Lt wa a) (B : Lt wb b) : Lt (1 + (wa + wb)) (slidX a b (.var i)) := by
  have pa : 1 ≤ 2 ^ wa := Nat.one_le_two_pow
  have pb : 1 ≤ 2 ^ wb := Nat.one_le_two_pow
  have m := two_le_mul pa pb
  obtain ⟨a1, a2, a3, a4, a5, a6, a7, a8, a9, a10⟩ := A
  obtain ⟨b1, b2, b3, b4, b5, b6, b7, b8, b9, b10⟩ := B
  have pe := pow_one_add wa wb
  refine ⟨?_, ?_, ?_, ?_, ?_, ?_, ?_, ?_, ?_, fun v => Int.mul_pos (a10 v) (b10 v)⟩
  · show (cnt a.x * cnt b.w + 1 * (cnt b.x * cnt a.w + cnt a.x * cnt b.w)) + 1 ≤ _
    rw [a3, b3, pe]; omega
  · show (cnt a.y * cnt b.w + 1 * (cnt b.y * cnt a.w + cnt a.y * cnt b.w)) + 1 ≤ _
    rw [a3, b3, pe]; omega
  · show cnt a.w * cnt b.w = 1
    rw [a3, b3]
  · show max (dg a.x + dg b.w) (1 + max (dg b.x + dg a.w) (dg a.x + dg b.w)) ≤ _
    omega
  · show max (dg a.y + dg b.w) (1 + max (dg b.y + dg a.w) (dg a.y + dg b.w)) ≤ _
    omega
  · show dg a.w + dg b.w ≤ _
    omega
  · show max (nb 7 a.x + nb 7 b.w) (1 + (max (nb 7 b.x + nb 7 a.w) (nb 7 a.x + nb 7 b.w) + 1)) + 1 ≤ _
    omega
  · show max (nb 7 a.y + nb 7 b.w) (1 + (max (nb 7 b.y + nb 7 a.w) (nb 7 a.y + nb 7 b.w) + 1)) + 1 ≤ _
    omega
  · show nb 7 a.w + nb 7 b.w ≤ _
    omega
theorem lt_part (A : Lt wa a) (B : Lt wb b) (hd : 0 < d) : Lt (1 + (wa + wb)) (partX a b n d) := by
  have pa : 1 ≤ 2 ^ wa := Nat.one_le_two_pow
  have pb : 1 ≤ 2 ^ wb := Nat.one_le_two_pow
  have m := two_le_mul pa pb
  obtain ⟨a1, a2, a3, a4, a5, a6, a7, a8, a9, a10⟩ := A
  obtain ⟨b1, b2, b3, b4, b5, b6, b7, b8, b9, b10⟩ := B
  have pe := pow_one_add wa wb
  refine ⟨?_, ?_, ?_, ?_, ?_, ?_, ?_, ?_, ?_, fun v => Int.mul_pos (Int.mul_pos (a10 v) (b10 v)) hd⟩
  · show (cnt a.x * cnt b.w + (cnt b.x * cnt a.w + cnt a.x * cnt b.w)) + 1 ≤ _
    rw [a3, b3, pe]; omega
  · show (cnt a.y * cnt b.w + (cnt b.y * cnt a.w + cnt a.y * cnt b.w)) + 1 ≤ _
    rw [a3, b3, pe]; omega
  · show cnt a.w * cnt b.w = 1
    rw [a3, b3]
  · show max (dg a.x + dg b.w) (max (dg b.x + dg a.w) (dg a.x + dg b.w)) ≤ _
    omega
  · show max (dg a.y + dg b.w) (max (dg b.y + dg a.w) (dg a.y + dg b.w)) ≤ _
    omega
  · show dg a.w + dg b.w ≤ _
    omega
  · show max (nb 7 a.x + nb 7 b.w + 64) ((max (nb 7 b.x + nb 7 a.w) (nb 7 a.x + nb 7 b.w) + 1) + 64) + 1 ≤ _
    omega
  · show max (nb 7 a.y + nb 7 b.w + 64) ((max (nb 7 b.y + nb 7 a.w) (nb 7 a.y + nb 7 b.w) + 1) + 64) + 1 ≤ _
    omega
  · show nb 7 a.w + nb 7 b.w + 64 ≤ _
    omega
theorem lt_over (Q : Lt wq q) (C : Lt wa a) : Lt (1 + (wq + wa)) (overX q a) := by
  have pa : 1 ≤ 2 ^ wa := Nat.one_le_two_pow
  have pb : 1 ≤ 2 ^ wq := Nat.one_le_two_pow
  have m := two_le_mul pa pb
  obtain ⟨a1, a2, a3, a4, a5, a6, a7, a8, a9, a10⟩ := Q
  obtain ⟨b1, b2, b3, b4, b5, b6, b7, b8, b9, b10⟩ := C
  have pe := pow_one_add wq wa
  rw [Nat.mul_comm (2 ^ wq)] at pe
  refine ⟨?_, ?_, ?_, ?_, ?_, ?_, ?_, ?_, ?_, fun v => Int.mul_pos (b10 v) (a10 v)⟩
  · show (cnt a.x * cnt q.w + cnt q.x * cnt a.w) + 1 ≤ _
    rw [a3, b3, pe]; omega
  · show (cnt a.y * cnt q.w + cnt q.y * cnt a.w) + 1 ≤ _
    rw [a3, b3, pe]; omega
  · show cnt a.w * cnt q.w = 1
    rw [a3, b3]
  · show max (dg a.x + dg q.w) (dg q.x + dg a.w) ≤ _
    omega
  · show max (dg a.y + dg q.w) (dg q.y + dg a.w) ≤ _
    omega
  · show dg a.w + dg q.w ≤ _
    omega
  · show max (nb 7 a.x + nb 7 q.w + 64) (nb 7 q.x + nb 7 a.w) + 1 ≤ _
    omega
  · show max (nb 7 a.y + nb 7 q.w + 64) (nb 7 q.y + nb 7 a.w) + 1 ≤ _
    omega
  · show nb 7 a.w + nb 7 q.w ≤ _
    omega
theorem three_le {x y z : Nat} (hx : 1 ≤ x) (hy : 1 ≤ y) (hz : 1 ≤ z) : x + y + z ≤ 2 * (x * (y * z)) + 1 := by
  have h1 := two_le_mul hy hz
  have p : 1 ≤ y * z := Nat.mul_pos hy hz
  have h2 := two_le_mul hx p
  have p2 : 1 ≤ x * (y * z) := Nat.mul_pos hx p
  omega
theorem pow_three (a b c : Nat) : 2 ^ (1 + (a + b + c)) = 2 * (2 ^ a * (2 ^ b * 2 ^ c)) := by rw [Nat.pow_add, Nat.pow_add, Nat.pow_add, Nat.mul_assoc]
theorem lt_shift (Q : Lt wq q) (A : Lt wa a) (B : Lt wb b) : Lt (1 + (wq + wa + wb)) (shiftX q a b) := by
  have pa : 1 ≤ 2 ^ wa := Nat.one_le_two_pow
  have pb : 1 ≤ 2 ^ wb := Nat.one_le_two_pow
  have pq : 1 ≤ 2 ^ wq := Nat.one_le_two_pow
  have m := three_le pq pa pb
  have pe := pow_three wq wa wb
  obtain ⟨q1, q2, q3, q4, q5, q6, q7, q8, q9, q10⟩ := Q
  obtain ⟨a1, a2, a3, a4, a5, a6, a7, a8, a9, a10⟩ := A
  obtain ⟨b1, b2, b3, b4, b5, b6, b7, b8, b9, b10⟩ := B
  refine ⟨?_, ?_, ?_, ?_, ?_, ?_, ?_, ?_, ?_, fun v => Int.mul_pos (q10 v) (Int.mul_pos (a10 v) (b10 v))⟩
  · show (cnt q.x * (cnt a.w * cnt b.w) + cnt q.w * (cnt b.x * cnt a.w + cnt a.x * cnt b.w)) + 1 ≤ _
    rw [a3, b3, q3, pe]; omega
  · show (cnt q.y * (cnt a.w * cnt b.w) + cnt q.w * (cnt b.y * cnt a.w + cnt a.y * cnt b.w)) + 1 ≤ _
    rw [a3, b3, q3, pe]; omega
  · show cnt q.w * (cnt a.w * cnt b.w) = 1
    rw [a3, b3, q3]
  · show max (dg q.x + (dg a.w + dg b.w)) (dg q.w + max (dg b.x + dg a.w) (dg a.x + dg b.w)) ≤ _
    omega
  · show max (dg q.y + (dg a.w + dg b.w)) (dg q.w + max (dg b.y + dg a.w) (dg a.y + dg b.w)) ≤ _
    omega
  · show dg q.w + (dg a.w + dg b.w) ≤ _
    omega
  · show max (nb 7 q.x + (nb 7 a.w + nb 7 b.w)) (nb 7 q.w + (max (nb 7 b.x + nb 7 a.w) (nb 7 a.x + nb 7 b.w) + 1)) + 1 ≤ _
    omega
  · show max (nb 7 q.y + (nb 7 a.w + nb 7 b.w)) (nb 7 q.w + (max (nb 7 b.y + nb 7 a.w) (nb 7 a.y + nb 7 b.w) + 1)) + 1 ≤ _
    omega
  · show nb 7 q.w + (nb 7 a.w + nb 7 b.w) ≤ _
    omega
theorem lt_turn (Q : Lt wq q) (A : Lt wa a) (B : Lt wb b) : Lt (1 + (wq + wa + wb)) (turnX q a b) := by
  have pa : 1 ≤ 2 ^ wa := Nat.one_le_two_pow
  have pb : 1 ≤ 2 ^ wb := Nat.one_le_two_pow
  have pq : 1 ≤ 2 ^ wq := Nat.one_le_two_pow
  have m := three_le pq pa pb
  have pe := pow_three wq wa wb
  obtain ⟨q1, q2, q3, q4, q5, q6, q7, q8, q9, q10⟩ := Q
  obtain ⟨a1, a2, a3, a4, a5, a6, a7, a8, a9, a10⟩ := A
  obtain ⟨b1, b2, b3, b4, b5, b6, b7, b8, b9, b10⟩ := B
  refine ⟨?_, ?_, ?_, ?_, ?_, ?_, ?_, ?_, ?_, fun v => Int.mul_pos (q10 v) (Int.mul_pos (a10 v) (b10 v))⟩
  · show (cnt q.x * (cnt a.w * cnt b.w) + cnt q.w * (cnt b.y * cnt a.w + cnt a.y * cnt b.w)) + 1 ≤ _
    rw [a3, b3, q3, pe]; omega
  · show (cnt q.y * (cnt a.w * cnt b.w) + cnt q.w * (cnt b.x * cnt a.w + cnt a.x * cnt b.w)) + 1 ≤ _
    rw [a3, b3, q3, pe]; omega
  · show cnt q.w * (cnt a.w * cnt b.w) = 1
    rw [a3, b3, q3]
  · show max (dg q.x + (dg a.w + dg b.w)) (dg q.w + max (dg b.y + dg a.w) (dg a.y + dg b.w)) ≤ _
    omega
  · show max (dg q.y + (dg a.w + dg b.w)) (dg q.w + max (dg b.x + dg a.w) (dg a.x + dg b.w)) ≤ _
    omega
  · show dg q.w + (dg a.w + dg b.w) ≤ _
    omega
  · show max (nb 7 q.x + (nb 7 a.w + nb 7 b.w)) (nb 7 q.w + ((max (nb 7 b.y + nb 7 a.w) (nb 7 a.y + nb 7 b.w) + 1) + 64)) + 1 ≤ _
    omega
  · show max (nb 7 q.y + (nb 7 a.w + nb 7 b.w)) (nb 7 q.w + (max (nb 7 b.x + nb 7 a.w) (nb 7 a.x + nb 7 b.w) + 1)) + 1 ≤ _
    omega
  · show nb 7 q.w + (nb 7 a.w + nb 7 b.w) ≤ _
    omega
end
/-- a light point is fine -/
theorem Lt.sz {w : Nat} {p : P3} (h : Lt w p) (l : w ≤ 27) (hx : cnt p.x ≤ 1600) (hy : cnt p.y ≤ 1600) : szOk p = true := by
  have r : radix = 20011 := rfl
  obtain ⟨a1, a2, a3, a4, a5, a6, a7, a8, a9, a10⟩ := h
  unfold szOk szE
  simp only [Bool.and_eq_true, decide_eq_true_eq]
  rw [r]
  omega
theorem Lt.few {w : Nat} {p : P3} (h : Lt w p) (l : w < 9) : cnt p.x ≤ 511 ∧ cnt p.y ≤ 511 := by
  have e : 2 ^ w ≤ 2 ^ 8 := Nat.pow_le_pow_right (by decide) (by omega)
  have e2 : (2 : Nat) ^ 8 = 256 := by decide
  have a := h.cx
  have b := h.cy
  omega
/-! ### three free points -/
def fr (i : Nat) : P3 := placedX (.var i) (.var (i + 1))
theorem q_fr {n i : Nat} (h : i + 1 < n) : Q3 n (fr i) := q_placed (lv_var (by omega)) (lv_var h)
def heavy : List (Wd × List Nat) := [(.mirror, [0, 1, 2]), (.foot, [0, 1, 2]), (.meet, [0, 1, 2, 0]), (.second, [0, 1, 2]), (.centre, [0, 1, 2])]
theorem heavy_sz : ∀ x ∈ heavy, szOk (mkP x.1 (x.2.map fun _ => shp3 (fr 0)) [] []) = true := by decide +kernel
theorem shp_fr (i : Nat) : shp3 (fr i) = shp3 (fr 0) := rfl
/-- the numbers at which they stand apart -/
def sPt (i j k : Nat) : Nat → Int := fun t => if t = j then 1 else if t = k + 1 then 1 else 0
theorem heavy_ev {i j k : Nat} (ij : i + 2 ≤ j ∨ j + 2 ≤ i) (ik : i + 2 ≤ k ∨ k + 2 ≤ i) (jk : j + 2 ≤ k ∨ k + 2 ≤ j) :
    evX (sPt i j k) (mirrorX (fr i) (fr j) (fr k)).w ≠ 0 ∧ evX (sPt i j k) (footX (fr i) (fr j) (fr k)).w ≠ 0 ∧ evX (sPt i j k) (meetX (fr i) (fr j) (fr k) (fr i)).w ≠ 0 ∧ evX (sPt i j k) (secondX (fr i) (fr j) (fr k)).w ≠ 0 ∧ evX (sPt i j k) (centreX (fr i) (fr j) (fr k)).w ≠ 0 := by
  have h0 : sPt i j k i = 0 := by unfold sPt; rw [if_neg (by omega), if_neg (by omega)]
  have h1 : sPt i j k (i + 1) = 0 := by unfold sPt; rw [if_neg (by omega), if_neg (by omega)]
  have h2 : sPt i j k j = 1 := by unfold sPt; rw [if_pos rfl]
  have h3 : sPt i j k (j + 1) = 0 := by unfold sPt; rw [if_neg (by omega), if_neg (by omega)]
  have h4 : sPt i j k k = 0 := by unfold sPt; rw [if_neg (by omega), if_neg (by omega)]
  have h5 : sPt i j k (k + 1) = 1 := by unfold sPt; rw [if_neg (by omega), if_pos rfl]
  refine ⟨?_, ?_, ?_, ?_, ?_⟩
  all_goals simp only [mirrorX, footX, meetX, secondX, centreX, crossX, partX, turnX, movedX, overX, squareX, alongX, difX, fr, placedX, P3.at, evX, if_true, if_false, Nat.one_ne_zero, h0, h1, h2, h3, h4, h5]
  all_goals decide
end CN

set_option Elab.async false
set_option linter.all false
set_option maxRecDepth 100000
set_option maxHeartbeats 4000000
set_option autoImplicit false
set_option pp.maxSteps 600
/-! The law's book beside the construction. -/
namespace CN
open PySem L2 TL K1D K2P
open K4 (isNm lets)
structure Bk where
  b : Addr
  s : Addr
  t : Addr
  f : Addr
  w : Addr
def kSt : Key := Sum.inr "steps"
def kTh : Key := Sum.inr "there"
def kFr : Key := Sum.inr "free"
def kWt : Key := Sum.inr "weight"
def kMa : Key := Sum.inr "many"
def bkK (B : Bk) (m : Int) : List (Key × V) := [(kSt, .ref B.s), (kTh, .ref B.t), (kFr, .ref B.f), (kWt, .ref B.w), (kMa, .int m)]
theorem ne_bk : kSt ≠ kTh ∧ kSt ≠ kFr ∧ kSt ≠ kWt ∧ kSt ≠ kMa ∧ kTh ≠ kFr ∧ kTh ≠ kWt ∧ kTh ≠ kMa ∧ kFr ≠ kWt ∧ kFr ≠ kMa ∧ kWt ≠ kMa := by decide +kernel
section
variable {H : Hp} {B : Bk} {m x : Int}
theorem bkS (h : H B.b = some (.dK (bkK B m))) : DGet H B.b (.str "steps") (some (.ref B.s)) := by
  have g := DGet.k (k := kSt) h
  rw [show valV (bkK B m) kSt = some (.ref B.s) by have := ne_bk; simp [valV, bkK, this, Ne.symm]] at g
  exact g
theorem bkT (h : H B.b = some (.dK (bkK B m))) : DGet H B.b (.str "there") (some (.ref B.t)) := by
  have g := DGet.k (k := kTh) h
  rw [show valV (bkK B m) kTh = some (.ref B.t) by have := ne_bk; simp [valV, bkK, this, Ne.symm]] at g
  exact g
theorem bkF (h : H B.b = some (.dK (bkK B m))) : DGet H B.b (.str "free") (some (.ref B.f)) := by
  have g := DGet.k (k := kFr) h
  rw [show valV (bkK B m) kFr = some (.ref B.f) by have := ne_bk; simp [valV, bkK, this, Ne.symm]] at g
  exact g
theorem bkW (h : H B.b = some (.dK (bkK B m))) : DGet H B.b (.str "weight") (some (.ref B.w)) := by
  have g := DGet.k (k := kWt) h
  rw [show valV (bkK B m) kWt = some (.ref B.w) by have := ne_bk; simp [valV, bkK, this, Ne.symm]] at g
  exact g
theorem bkM (h : H B.b = some (.dK (bkK B m))) : DGet H B.b (.str "many") (some (.int m)) := by
  have g := DGet.k (k := kMa) h
  rw [show valV (bkK B m) kMa = some (.int m) by have := ne_bk; simp [valV, bkK, this, Ne.symm]] at g
  exact g
theorem bkPut (h : H B.b = some (.dK (bkK B m))) (x : Int) : DPut H B.b (.str "many") (.int x) (upd H B.b (.dK (bkK B x))) := by
  have g := DPut.k (k := kMa) (v := .int x) h (by show 5 < sizeLine; decide)
  rw [show putK (bkK B m) kMa (.int x) = bkK B x by have := ne_bk; simp [putK, bkK, this, Ne.symm]] at g
  exact g
end
def wtK (ws : List (Str × Nat)) : List (Key × V) := ws.map fun e => ((Sum.inr e.1 : Key), V.int (e.2 : Nat))
def wtOf (ws : List (Str × Nat)) (x : Str) : Option Nat := (ws.find? fun e => decide (e.1 = x)).map (·.2)
theorem val_wt (x : Str) : ∀ ws : List (Str × Nat), valV (wtK ws) (Sum.inr x : Key) = (wtOf ws x).map fun k => V.int (k : Nat)
  | [] => rfl
  | e :: ws => by
    by_cases h : e.1 = x
    · have e1 : wtOf (e :: ws) x = some e.2 := by unfold wtOf; rw [List.find?_cons, decide_eq_true h]; rfl
      have e2 : valV (wtK (e :: ws)) (Sum.inr x : Key) = some (V.int (e.2 : Nat)) := valV_pos (congrArg Sum.inr h)
      rw [e1, e2]
      rfl
    · have e1 : wtOf (e :: ws) x = wtOf ws x := by unfold wtOf; rw [List.find?_cons, decide_eq_false h]
      have e2 : valV (wtK (e :: ws)) (Sum.inr x : Key) = valV (wtK ws) (Sum.inr x : Key) := valV_neg fun q => h (Sum.inr.inj q)
      rw [e1, e2]
      exact val_wt x ws
theorem wtOf_mem {ws : List (Str × Nat)} {x : Str} {k : Nat} (h : wtOf ws x = some k) : (x, k) ∈ ws := by
  unfold wtOf at h
  obtain ⟨e, he, rfl⟩ := Option.map_eq_some_iff.mp h
  have h1 := List.mem_of_find?_eq_some he
  have h2 : e.1 = x := of_decide_eq_true (p := e.1 = x) (by have := List.find?_some he; exact this)
  rw [← h2]
  exact h1
theorem wtOf_some {ws : List (Str × Nat)} {x : Str} (h : x ∈ ws.map (·.1)) : ∃ k, wtOf ws x = some k := by
  unfold wtOf
  cases q : ws.find? fun e => decide (e.1 = x) with
  | some e => exact ⟨e.2, rfl⟩
  | none =>
    obtain ⟨e, me, rfl⟩ := List.mem_map.mp h
    exact absurd (decide_eq_true rfl) (List.find?_eq_none.mp q e me)
theorem wtOf_not {ws : List (Str × Nat)} {x : Str} (h : x ∉ ws.map (·.1)) : wtOf ws x = none := by
  unfold wtOf
  rw [List.find?_eq_none.mpr fun e me q => h (List.mem_map.mpr ⟨e, me, of_decide_eq_true q⟩)]
  rfl
structure BookAt (H : Hp) (B : Bk) (c : Cst) (ws fs : List (Str × Nat)) : Prop where
  b : H B.b = some (.dK (bkK B ((c.unk.length : Nat) : Int)))
  s : ∃ us, H B.s = some (.lst us) ∧ Paired (StepAt H) us c.steps
  t : H B.t = some (.lst (c.names.map V.str))
  f : H B.f = some (.lst ((fs.map (·.1)).map V.str))
  w : H B.w = some (.dK (wtK ws))
theorem BookAt.same {H G : Hp} {B : Bk} {c : Cst} {ws fs : List (Str × Nat)} (h : BookAt H B c ws fs) (s : Same H G) : BookAt G B c ws fs := by
  obtain ⟨us, h1, h2⟩ := h.s
  exact ⟨s _ _ h.b, ⟨us, s _ _ h1, pair_imp (fun _ _ q => StepAt.up q s) h2⟩, s _ _ h.t, s _ _ h.f, s _ _ h.w⟩
/-- what is changed at D, where no tuple stands -/
theorem BookAt.chg {H G : Hp} {B : Bk} {c : Cst} {ws fs : List (Str × Nat)} {D : List Addr} (h : BookAt H B c ws fs) (g : Chg D H G) (nt : ∀ d ∈ D, ∀ xs, H d ≠ some (.tup xs)) (n : B.b ∉ D ∧ B.s ∉ D ∧ B.t ∉ D ∧ B.f ∉ D ∧ B.w ∉ D) : BookAt G B c ws fs := by
  obtain ⟨us, h1, h2⟩ := h.s
  exact ⟨g _ _ h.b n.1, ⟨us, g _ _ h1 n.2.1, pair_imp (fun _ _ ⟨a, e, q⟩ => ⟨a, e, g _ _ q fun m => nt a m _ q⟩) h2⟩, g _ _ h.t n.2.2.1, g _ _ h.f n.2.2.2.1, g _ _ h.w n.2.2.2.2⟩
theorem Bt.chg {p : Addr} {H G : Hp} (h : Bt p H G) : Chg [p] H G := fun b x e m => h b x (fun z => m (by rw [z]; exact List.mem_cons_self)) e
theorem StL.loose {H : Hp} {p l : Addr} (h : StL H p l) : Loose [p] H := by
  obtain ⟨ns, a, v, f, m, n, sd, h1, _⟩ := h
  intro d md
  obtain rfl := List.mem_singleton.mp md
  exact ⟨fun xs q => (by rw [h1] at q; cases q), text_loose (x := "cells") h1⟩
/-- all apart -/
structure Apart (p l : Addr) (o : Own) (B : Bk) : Prop where
  op : o.p ≠ p ∧ o.s ≠ p ∧ o.u ≠ p ∧ o.t ≠ p
  ol : o.p ≠ l ∧ o.s ≠ l ∧ o.u ≠ l ∧ o.t ≠ l
  bp : B.b ≠ p ∧ B.s ≠ p ∧ B.t ≠ p ∧ B.f ≠ p ∧ B.w ≠ p
  bl : B.b ≠ l ∧ B.s ≠ l ∧ B.t ≠ l ∧ B.f ≠ l ∧ B.w ≠ l
  bo : ∀ x, x = B.b ∨ x = B.s ∨ x = B.t ∨ x = B.f ∨ x = B.w → x ≠ o.p ∧ x ≠ o.s ∧ x ≠ o.u ∧ x ≠ o.t
  bb : B.b ≠ B.s ∧ B.b ≠ B.t ∧ B.b ≠ B.f ∧ B.b ≠ B.w ∧ B.s ≠ B.t ∧ B.s ≠ B.f ∧ B.s ≠ B.w ∧ B.t ≠ B.f ∧ B.t ≠ B.w ∧ B.f ≠ B.w
/-- all that stands through the law -/
structure Wld (C : Addr) (H : Hp) (p l : Addr) (o : Own) (B : Bk) (c : Cst) (ws fs : List (Str × Nat)) : Prop where
  st : StL H p l
  con : ConAt C H o c
  bk : BookAt H B c ws fs
  ap : Apart p l o B
section
variable {C : Addr} {H G : Hp} {p l : Addr} {o : Own} {B : Bk} {c : Cst} {ws fs : List (Str × Nat)}
theorem one_not {a d : Addr} (h : a ≠ d) : a ∉ [d] := fun m => h (List.mem_singleton.mp m)
theorem BookAt.bt (h : BookAt H B c ws fs) (b : Bt p H G) (s : StL H p l) (n : B.b ≠ p ∧ B.s ≠ p ∧ B.t ≠ p ∧ B.f ≠ p ∧ B.w ≠ p) : BookAt G B c ws fs :=
  h.chg b.chg (fun d m => (s.loose d m).1) ⟨one_not n.1, one_not n.2.1, one_not n.2.2.1, one_not n.2.2.2.1, one_not n.2.2.2.2⟩
theorem StepAt.bt {v : V} {st : Stp} (h : StepAt H v st) (b : Bt p H G) (s : StL H p l) : StepAt G v st := h.chg b.chg s.loose
theorem Wld.same (h : Wld C H p l o B c ws fs) (s : Same H G) : Wld C G p l o B c ws fs := ⟨h.st.same s, h.con.up s, h.bk.same s, h.ap⟩
theorem Wld.bt (h : Wld C H p l o B c ws fs) (b : Bt p H G) (s : StL G p l) : Wld C G p l o B c ws fs :=
  ⟨s, h.con.chg b.chg h.st.loose ⟨one_not h.ap.op.1, one_not h.ap.op.2.1, one_not h.ap.op.2.2.1, one_not h.ap.op.2.2.2⟩, h.bk.bt b h.st h.ap.bp, h.ap⟩
theorem three_not {a x y z : Addr} (h : a ≠ x) (h2 : a ≠ y) (h3 : a ≠ z) : a ∉ [x, y, z] := fun m => by
  rcases List.mem_cons.mp m with e | m
  · exact h e
  rcases List.mem_cons.mp m with e | m
  · exact h2 e
  · exact h3 (List.mem_singleton.mp m)
theorem ConAt.noTup (h : ConAt C H o c) : ∀ d ∈ [o.p, o.s, o.t], ∀ xs, H d ≠ some (.tup xs) := by
  obtain ⟨⟨dx, h0⟩, ⟨vs, h1, h2⟩, h3, ⟨kvs, h4, h5⟩, _⟩ := h
  intro d m xs q
  rcases List.mem_cons.mp m with rfl | m
  · rw [h0] at q; cases q
  rcases List.mem_cons.mp m with rfl | m
  · rw [h1] at q; cases q
  · obtain rfl := List.mem_singleton.mp m
    rw [h4] at q; cases q
/-- behind an add: the state and the book stand -/
theorem Wld.add {u : Addr} {c2 : Cst} (h : Wld C H p l o B c ws fs) (g : Chg [o.p, o.s, o.t] H G) (nu : H u = none) (hc : ConAt C G ⟨o.p, o.s, u, o.t⟩ c2) : StL G p l ∧ BookAt G B c ws fs ∧ Apart p l ⟨o.p, o.s, u, o.t⟩ B := by
  obtain ⟨st, con, bk, ap⟩ := h
  obtain ⟨us, hs, _⟩ := bk.s
  have bo := ap.bo
  refine ⟨?_, bk.chg g con.noTup ⟨?_, ?_, ?_, ?_, ?_⟩, ⟨ap.op.1, ap.op.2.1, (st.ne nu).1, ap.op.2.2.2⟩, ⟨ap.ol.1, ap.ol.2.1, (st.ne nu).2, ap.ol.2.2.2⟩, ap.bp, ap.bl, fun x hx => ⟨(bo x hx).1, (bo x hx).2.1, ?_, (bo x hx).2.2.2⟩, ap.bb⟩
  · obtain ⟨ns, a, v, f, m, n, sd, h1, h2, a0, lp⟩ := st
    exact ⟨ns, a, v, f, m, n, sd, g _ _ h1 (three_not (Ne.symm ap.op.1) (Ne.symm ap.op.2.1) (Ne.symm ap.op.2.2.2)), g _ _ h2 (three_not (Ne.symm ap.ol.1) (Ne.symm ap.ol.2.1) (Ne.symm ap.ol.2.2.2)), a0, lp⟩
  · have b := bo B.b (.inl rfl); exact three_not b.1 b.2.1 b.2.2.2
  · have b := bo B.s (.inr (.inl rfl)); exact three_not b.1 b.2.1 b.2.2.2
  · have b := bo B.t (.inr (.inr (.inl rfl))); exact three_not b.1 b.2.1 b.2.2.2
  · have b := bo B.f (.inr (.inr (.inr (.inl rfl)))); exact three_not b.1 b.2.1 b.2.2.2
  · have b := bo B.w (.inr (.inr (.inr (.inr rfl)))); exact three_not b.1 b.2.1 b.2.2.2
  · show x ≠ u
    rcases hx with rfl | rfl | rfl | rfl | rfl
    · exact fun z => by rw [← z, bk.b] at nu; cases nu
    · exact fun z => by rw [← z, hs] at nu; cases nu
    · exact fun z => by rw [← z, bk.t] at nu; cases nu
    · exact fun z => by rw [← z, bk.f] at nu; cases nu
    · exact fun z => by rw [← z, bk.w] at nu; cases nu
end
/-! ### what is known of the points -/
structure Inv (c : Cst) (ws fs : List (Str × Nat)) : Prop where
  ck : Cok c
  nm : ws.map (·.1) = c.names
  lt : ∀ e ∈ ws, e.2 < 9 → ∃ p, c.pt e.1 = some p ∧ Lt e.2 p
  q3 : ∀ x p, c.pt x = some p → Q3 c.unk.length p
  z0 : ∀ e r, ws = e :: r → e.2 = 0
  fr : ∀ e ∈ fs, c.pt e.1 = some (fr e.2) ∧ e.2 + 1 < c.unk.length
  fd : fs.Pairwise fun a b => a.2 + 2 ≤ b.2
/-- a step that can be made, with its weight -/
structure StepOk (c : Cst) (nm : Str) (s : Stp) (wt : Nat) : Prop where
  nm : s.nm = nm
  rt : Right c.names s
  ul : (c.unk ++ newUnk s).length ≤ 8
  q3 : Q3 (c.unk ++ newUnk s).length (c.mk3 s)
  sz : szOk (c.mk3 s) = true
  nz : NZ (c.mk3 s).w
  lt : wt < 9 → Lt wt (c.mk3 s)
  w0 : c.names = [] → wt = 0
  wt : wt ≤ 99
  fr : s.w = .free → c.mk3 s = fr c.unk.length
theorem StepOk.good {c : Cst} {nm : Str} {s : Stp} {wt : Nat} (h : StepOk c nm s wt) (l : c.steps.length < 12) : AddGood c s := ⟨h.rt, l, h.ul, fine_sz h.q3 h.sz, h.nz⟩
theorem q3_mono {n m : Nat} {p : P3} (h : Q3 n p) (l : n ≤ m) : Q3 m p := by
  have vm : ∀ {e : Px}, Vars n e → Vars m e := by
    intro e
    induction e with
    | num => exact fun _ => trivial
    | var i => exact fun h => Nat.lt_of_lt_of_le h l
    | add a b ia ib => exact fun h => ⟨ia h.1, ib h.2⟩
    | sub a b ia ib => exact fun h => ⟨ia h.1, ib h.2⟩
    | mul a b ia ib => exact fun h => ⟨ia h.1, ib h.2⟩
    | scl a k ia => exact fun h => ia h
  exact ⟨⟨h.x.1, vm h.x.2⟩, ⟨h.y.1, vm h.y.2⟩, ⟨h.w.1, vm h.w.2⟩⟩
theorem pt_mem {c : Cst} {x : Str} {p : P3} (h : c.pt x = some p) : x ∈ c.names := by
  unfold Cst.pt at h
  obtain ⟨e, he, _⟩ := Option.map_eq_some_iff.mp h
  have h1 := List.mem_of_find?_eq_some he
  have h2 : e.1 = x := of_decide_eq_true (p := e.1 = x) (by have := List.find?_some he; exact this)
  rw [← h2]
  exact List.mem_map.mpr ⟨e, h1, rfl⟩
/-- the known, behind a step -/
theorem Inv.add {c : Cst} {ws fs : List (Str × Nat)} {nm : Str} {s : Stp} {wt : Nat} (h : Inv c ws fs) (g : StepOk c nm s wt) (l : c.steps.length < 12) : Inv (c.add s) (ws ++ [(nm, wt)]) (if s.w = .free then fs ++ [(nm, c.unk.length)] else fs) := by
  have nn : s.nm ∉ c.names := g.rt.new
  have ul : c.unk.length ≤ (c.add s).unk.length := by show _ ≤ (c.unk ++ newUnk s).length; rw [List.length_append]; omega
  have old : ∀ x p, c.pt x = some p → (c.add s).pt x = some p := fun x p e => (pt_old (pt_mem e)).trans e
  have new : (c.add s).pt nm = some (c.mk3 s) := by rw [← g.nm]; exact pt_new nn
  refine ⟨h.ck.add g.rt l g.ul, ?_, fun e m hw => ?_, fun x p e => ?_, fun e r he => ?_, ?_, ?_⟩
  · rw [List.map_append, h.nm, names_add, g.nm]
    rfl
  · rcases List.mem_append.mp m with m | m
    · obtain ⟨p, h1, h2⟩ := h.lt e m hw
      exact ⟨p, old _ _ h1, h2⟩
    · obtain rfl := List.mem_singleton.mp m
      exact ⟨_, new, g.lt hw⟩
  · by_cases hx : x = s.nm
    · subst hx
      rw [pt_new nn] at e
      cases e
      exact g.q3
    · have hm := pt_mem e
      rw [names_add] at hm
      rcases List.mem_append.mp hm with hm | hm
      · rw [pt_old hm] at e
        exact q3_mono (h.q3 x p e) ul
      · exact absurd (List.mem_singleton.mp hm) hx
  · cases ws with
    | nil =>
      have : c.names = [] := by rw [← h.nm]; rfl
      cases he
      exact g.w0 this
    | cons a b =>
      cases he
      exact h.z0 _ _ rfl
  · have o : ∀ e ∈ fs, (c.add s).pt e.1 = some (CN.fr e.2) ∧ e.2 + 1 < (c.add s).unk.length := fun e m => ⟨old _ _ (h.fr e m).1, by have := (h.fr e m).2; omega⟩
    split
    · rename_i hf
      intro e m
      rcases List.mem_append.mp m with m | m
      · exact o e m
      · obtain rfl := List.mem_singleton.mp m
        refine ⟨by rw [new, g.fr hf], ?_⟩
        show c.unk.length + 1 < (c.unk ++ newUnk s).length
        rw [List.length_append, newUnk_len, hf]
        show _ < _ + 2
        omega
    · exact o
  · split
    · refine List.pairwise_append.mpr ⟨h.fd, List.pairwise_singleton _ _, fun a ha b hb => ?_⟩
      obtain rfl := List.mem_singleton.mp hb
      have := (h.fr a ha).2
      show a.2 + 2 ≤ c.unk.length
      omega
    · exact h.fd
end CN

set_option Elab.async false
set_option linter.all false
set_option maxRecDepth 100000
set_option maxHeartbeats 4000000
set_option autoImplicit false
set_option pp.maxSteps 600
/-! The law's own look at a step. -/
namespace CN
open PySem L2 TL K1D K2P
open K4 (isNm lets)
abbrev sWords : Stmt := K2P.top 66
abbrev sLEl : Stmt := K2P.top 67
abbrev sLBt : Stmt := K2P.top 68
abbrev sLNm : Stmt := K2P.top 69
abbrev sLFault : Stmt := K2P.top 70
def wordsT : List Str := wds.map wdS
def spWords : Sp := fun vs H Q _ => vs = [] ∧ ∀ (p : Addr) (G : Hp), Same H G → H p = none → G p = some (.lst (wordsT.map V.str)) → Q (.ref p) G
def spLEl : Sp := fun vs H Q _ => ∃ d : Wd, vs = [.str (wdS d)] ∧ ∀ G, Same H G → Q (.int (arP d : Nat)) G
def btw (lo hi : Int) : V → Bool | .int i => decide (lo ≤ i) && decide (i ≤ hi) | _ => false
def spLBt : Sp := fun vs H Q _ => ∃ (u : V) (lo hi : Int), vs = [u, .int lo, .int hi] ∧ Pl H u ∧ ∀ G, Same H G → Q (.bl (btw lo hi u)) G
def spLFault : Sp := fun vs H Q _ => ∃ (x : V) (A : Addr) (names : List Str), vs = [x, .ref A] ∧ H A = some (.lst (names.map V.str)) ∧
  ((NoSeq x ∧ ∀ G, Same H G → Q (.int 0) G) ∨ ∃ us, SeqV H x us ∧ Pls H us ∧ us.length < 1000000 ∧ (∀ k : Nat, chkAt names us = some k → ∀ G, Same H G → Q (.int (k : Nat)) G) ∧ (chkAt names us = none → ∀ G, Same H G → Q .non G))
def idxW : Wd → Nat
  | .free => 0 | .slide => 1 | .part => 2 | .shift => 3 | .turn => 4 | .over => 5 | .mirror => 6 | .foot => 7 | .meet => 8 | .second => 9 | .centre => 10
theorem idxW_at : ∀ d : Wd, (wordsT.map V.str)[idxW d]? = some (.str (wdS d)) := by intro d; cases d <;> rfl
theorem idxW_no (d : Wd) : ∀ (m : Nat) (z : V), m < idxW d → (wordsT.map V.str)[m]? = some z → eqV z (.str (wdS d)) = false := by
  have h : ∀ m, m < idxW d → ((wordsT[m]?).all fun y => !(eqV (.str y) (.str (wdS d)))) = true := by cases d <;> decide +kernel
  intro m z hm e
  rw [List.getElem?_map] at e
  obtain ⟨y, hy, rfl⟩ := Option.map_eq_some_iff.mp e
  have := h m hm
  rw [hy] at this
  simpa using this
theorem arP_at : ∀ d : Wd, ([.int 0, .int 2, .int 2, .int 3, .int 3, .int 2, .int 3, .int 3, .int 4, .int 3, .int 3] : List V)[idxW d]? = some (.int (arP d : Nat)) := by intro d; cases d <;> rfl
theorem flat_words : (wordsT.map V.str).all flatV = true := flat_strs _
theorem isSeq_yes {K : PySem.W.Frag} {H : Hp} {x : V} {us : List V} {tp : Addr} {R : VK} (hs : SeqV H x us) (hT : H tp = some (.tup [.ty "list", .ty "tuple"])) (q : R (.bl true) H) : rIsiT K [x, .ref tp] H R := by
  have pr : Paired ClsV [V.ty "list", V.ty "tuple"] [Value.type "list", Value.type "tuple"] := .cons (.ty _) (.cons (.ty _) .nil)
  obtain ⟨a, rfl, h⟩ := hs
  rcases h with h | h
  · exact ⟨_, tp, _, _, _, true, rfl, hT, pr, .base (.lst h), kq (b1 := true) (b2 := false) (by decide +kernel) (by decide +kernel), q⟩
  · exact ⟨_, tp, _, _, _, true, rfl, hT, pr, .base (.tup h), kq (b1 := false) (b2 := true) (by decide +kernel) (by decide +kernel), q⟩
theorem isSeq_no {K : PySem.W.Frag} {H : Hp} {x : V} {tp : Addr} {R : VK} (ns : NoSeq x) (hT : H tp = some (.tup [.ty "list", .ty "tuple"])) (q : R (.bl false) H) : rIsiT K [x, .ref tp] H R := by
  have pr : Paired ClsV [V.ty "list", V.ty "tuple"] [Value.type "list", Value.type "tuple"] := .cons (.ty _) (.cons (.ty _) .nil)
  cases ns with
  | non => exact ⟨_, tp, _, _, _, false, rfl, hT, pr, .base .non, kq (b1 := false) (b2 := false) (by decide +kernel) (by decide +kernel), q⟩
  | bl b => exact ⟨_, tp, _, _, _, false, rfl, hT, pr, .base (.bl b), kq (b1 := false) (b2 := false) (by decide +kernel) (by decide +kernel), q⟩
  | int i => exact ⟨_, tp, _, _, _, false, rfl, hT, pr, .base (.int i), kq (b1 := false) (b2 := false) (by decide +kernel) (by decide +kernel), q⟩
  | str x => exact ⟨_, tp, _, _, _, false, rfl, hT, pr, .base (.str x), kq (b1 := false) (b2 := false) (by decide +kernel) (by decide +kernel), q⟩
theorem mem_words (y : Str) : decide (y ∈ wordsT) = (wdOf y).isSome := by
  unfold wordsT wdOf
  cases h : wds.find? fun d => decide (wdS d = y) with
  | some d =>
    exact decide_eq_true (List.mem_map.mpr ⟨d, List.mem_of_find?_eq_some h, of_decide_eq_true (p := wdS d = y) (by have := List.find?_some h; exact this)⟩)
  | none =>
    refine decide_eq_false fun m => ?_
    obtain ⟨d, md, e⟩ := List.mem_map.mp m
    exact List.find?_eq_none.mp h d md (decide_eq_true e)
theorem memV_n (names : List Str) (u : V) : memV names 110 u = btw (-100) 100 u := by
  cases u <;> rfl
theorem memV_d (names : List Str) (u : V) : memV names 100 u = btw 1 100 u := by
  cases u <;> rfl
theorem wdS_part (d : Wd) : decide (V.str (wdS d) = V.str "part") = decide (d = .part) := by cases d <;> decide +kernel
theorem arN_part (d : Wd) : arN d = if d = .part then 2 else 0 := by cases d <;> rfl
structure LChkTxt (mg : Str → Option Value) : Prop where
  isinst : mg "isinstance" = none
  str : mg "str" = none
  int : mg "int" = none
  bool : mg "bool" = none
  list : mg "list" = none
  tuple : mg "tuple" = none
  len : mg "len" = none
  range : mg "range" = none
section
variable {P : Program} {w : World} {K : PySem.W.Frag} {mg : Str → Option Value} {base : Heap} {fW fE fB fN : Addr} {dW dE dB dN : FuncData}
theorem scWords : FnScope [] [] (defScope sWords) := ⟨rfl, rfl, rfl, by decide +kernel, rfl, by decide +kernel, by decide +kernel⟩
theorem scLEl : FnScope ["word"] ["word"] (defScope sLEl) := ⟨rfl, rfl, rfl, by decide +kernel, rfl, by decide +kernel, by decide +kernel⟩
theorem scLBt : FnScope ["number_v", "low", "high"] ["number_v", "low", "high"] (defScope sLBt) := ⟨rfl, rfl, rfl, by decide +kernel, rfl, by decide +kernel, by decide +kernel⟩
theorem scLNm : FnScope ["name", "sign"] ["name"] (defScope sLNm) := ⟨rfl, rfl, rfl, by decide +kernel, rfl, by decide +kernel, by decide +kernel⟩
theorem scLFault : FnScope ["step", "there", "k"] ["step", "there"] (defScope sLFault) := ⟨rfl, rfl, rfl, by decide +kernel, rfl, by decide +kernel, by decide +kernel⟩
theorem ok_words {f : Addr} {fd : FuncData} (F : Fun K "_law_words" "_law_words" sWords f fd) : FnOk P w K mg base CX0 1 f fd [] spWords := by
  refine F.ok scWords (fun vs H Q E h => ?_) (fun cdv A outer s H vs Q E hr h => ?_)
  · obtain ⟨rfl, _⟩ := h
    rfl
  · obtain ⟨rfl, go⟩ := h
    refine ⟨_, (pss_one (ps_ret (pe_lst (pa_cons pe_str (pa_cons pe_str (pa_cons pe_str (pa_cons pe_str (pa_cons pe_str (pa_cons pe_str (pa_cons pe_str (pa_cons pe_str (pa_cons pe_str (pa_cons pe_str (pa_cons pe_str pa_nil)))))))))))))), ?_⟩
    exact ⟨by show 11 ≤ sizeLine; decide, fun p np => go p _ (same_new np) np upd_same⟩
theorem ok_lel {f : Addr} {fd : FuncData} (F : Fun K "_law_elders" "_law_elders" sLEl f fd) (UW : CallT P w K mg base CX0 1 "_law_words" [] spWords fW dW) : FnOk P w K mg base CX0 2 f fd ["word"] spLEl := by
  refine F.ok scLEl (fun vs H Q E h => ?_) (fun cdv A outer s H vs Q E hr h => ?_)
  · obtain ⟨d, rfl, _⟩ := h
    rfl
  · obtain ⟨d, rfl, go⟩ := h
    refine ⟨_, (pss_one (ps_ret (pe_ix ix_tup (pe_tup (pa_cons pe_int (pa_cons pe_int (pa_cons pe_int (pa_cons pe_int (pa_cons pe_int (pa_cons pe_int (pa_cons pe_int (pa_cons pe_int (pa_cons pe_int (pa_cons pe_int (pa_cons pe_int pa_nil)))))))))))) (pe_bm PySem.F.plainAttrs_list PySem.F.slot_list_index PySem.F.type_list_index mt_index (pe_call0 UW.ok (hr.mono (by decide)) rfl UW.g UW.k UW.b .nil pass0) (pa_cons (pv 0) pa_nil)) (fun _ _ => rfl)))), ?_⟩
    refine ⟨by show 11 ≤ sizeLine; decide, fun t nt => ⟨rfl, fun p G sG np hp => ?_⟩⟩
    have ht := sG _ _ (show upd H t (.tup [.int 0, .int 2, .int 2, .int 3, .int 3, .int 2, .int 3, .int 3, .int 4, .int 3, .int 3]) t = some _ from upd_same)
    refine ⟨.inl ⟨rfl, _, SqL.of hp⟩, _, rfl, p, _, _, idxW d, _, rfl, rfl, SqL.of hp, rfl, flat_words, idxW_at d, by show (wdS d == wdS d) = true; exact beq_self_eq_true _, idxW_no d, ?_⟩
    exact ⟨t, _, _, _, rfl, rfl, SqT.of ht, atI_nat (arP_at d), go _ ((same_new nt).trans sG)⟩
theorem ok_lbt {f : Addr} {fd : FuncData} (F : Fun K "_law_is_between" "_law_is_between" sLBt f fd) (T : LChkTxt mg) : FnOk P w K mg base CX0 1 f fd ["number_v", "low", "high"] spLBt := by
  refine F.ok scLBt (fun vs H Q E h => ?_) (fun cdv A outer s H vs Q E hr h => ?_)
  · obtain ⟨u, lo, hi, rfl, _⟩ := h
    rfl
  · obtain ⟨u, lo, hi, rfl, pl, go⟩ := h
    refine ⟨_, (pss_one (ps_ret (pe_and (pe_callB call_isi (by rfl) T.isinst (by decide +kernel) (pa_cons (pv 0) (pa_cons (pe_bltn (v := .ty "int") (u := .type "int") (by rfl) T.int (by decide +kernel) (by exact rfl)) pa_nil))) (pe_and (pe_not (pe_callB call_isi (by rfl) T.isinst (by decide +kernel) (pa_cons (pv 0) (pa_cons (pe_bltn (v := .ty "bool") (u := .type "bool") (by rfl) T.bool (by decide +kernel) (by exact rfl)) pa_nil)))) (pe_one (pe_chain op_le op_le (pv 1) (pv 0) (pv 2))))))), ?_⟩
    obtain ⟨t, ty, ks, ki, kb⟩ := pl.ty (K := K)
    refine isi (K := K) rfl ty ki ⟨_, rfl, ?_⟩
    have q := go H (Same.refl H)
    cases u with
    | int i =>
      refine ifY rfl (isi (K := K) rfl ty kb ⟨_, rfl, _, rfl, ifY rfl ?_⟩)
      refine ⟨_, rfl, _, rfl, _, _, rfl, rfl, _, rfl, ?_⟩
      by_cases h1 : lo ≤ i
      · refine ifY (decide_eq_true h1) ⟨_, rfl, _, _, rfl, rfl, ?_⟩
        simp only [btw, h1, decide_true, Bool.true_and] at q
        exact q
      · refine ifN (decide_eq_false h1) ?_
        simp only [btw, h1, decide_false, Bool.false_and] at q
        exact q
    | bl b => exact ifY rfl (isi (K := K) rfl ty kb ⟨_, rfl, _, rfl, ifN rfl q⟩)
    | _ => exact ifN rfl q
theorem ok_lnm {f : Addr} {fd : FuncData} (F : Fun K "_law_is_name" "_law_is_name" sLNm f fd) (T : LChkTxt mg) : FnOk P w K mg base CX0 1 f fd ["name"] spIsName := by
  refine F.ok scLNm (fun vs H Q E h => ?_) (fun cdv A outer s H vs Q E hr h => ?_)
  · obtain ⟨x, rfl, _⟩ := h
    rfl
  · obtain ⟨x, rfl, pl, go⟩ := h
    refine ⟨_, (pss_cons (ps_if (PW.pt (pw_or (pt_not (pt_val (pe_callB call_isi (by rfl) T.isinst (by decide +kernel) (pa_cons (pv 0) (pa_cons (pe_bltn (v := .ty "str") (u := .type "str") (by rfl) T.str (by decide +kernel) (by exact rfl)) pa_nil))))) (pw_or1 (pt_not (pt_chain op_lt op_lt pe_int (pe_callB call_len_str (by rfl) T.len PySem.boot_len (pa_cons (pv 0) pa_nil)) pe_int))))) (pss_one (ps_ret pe_bl)) pss_nil)
      (pss_one (ps_ret (pe_cmpR op_eq (pe_callB call_len_seq (by rfl) T.len PySem.boot_len (pa_cons (pe_lc (own := [("sign", 1)]) (g := (gName 1)) (tt := (tTest (tOp (fun x y H Q => ∃ (c : Nat) (z : Str), x = .str ⟨#[c]⟩ ∧ y = .str z ∧ Q (.bl (!decide (c ∈ z.cps.toList))) H) (tVar 1) (tC (.str "abcdefghijklmnopqrstuvwxyz"))))) (te := (tVar 1)) rfl scLNm.nd (pi_str (pv 0)) (blkOk_by (own := [("sign", 1)]) (N := ["name", "sign"]) (sc := defScope sLNm) (by decide +kernel)) (fun _ _ _ _ _ => (pg_name (i := 1) scLNm.nd rfl (Or.inl rfl))) (fun _ _ _ _ _ => (pts_one (pt_cmpR op_notIn_sign (pv 1) pe_str (by rfl)))) (fun _ _ _ _ _ => (pv 1))) pa_nil)) pe_int (nomark _))))), ?_⟩
    obtain ⟨tt, ty, ks, _, _⟩ := pl.ty (K := K)
    refine isi (K := K) rfl ty ks ⟨_, rfl, ?_⟩
    have no : nmV x = false → Q (.bl false) H := fun e => by
      have := go H (Same.refl H)
      rw [e] at this
      exact this
    cases pl with
    | str x lx =>
      refine ifN rfl ?_
      refine ⟨_, rfl, x, rfl, by rw [sizeLine_eq]; omega, _, _, rfl, rfl, _, rfl, ?_⟩
      have l0 := lenT x
      by_cases h1 : 1 ≤ x.length
      · refine ifY (decide_eq_true (by omega)) ⟨_, _, rfl, rfl, _, rfl, ?_⟩
        by_cases h4 : x.length ≤ 4
        · rw [decide_eq_true (show (x.length : Int) < 5 by omega)]
          refine ifN rfl ?_
          refine ⟨_, rfl, x, rfl, fun D nD => ?_⟩
          refine lc_it (walk_str (z := x)) (fun i G => Same H G ∧ G D = some (.lst ((((tl x).take i).filter fun c => !decide (c ∈ lets)).map fun c => V.str ⟨#[c]⟩))) ⟨same_new nD, upd_same⟩ (fun _ _ _ _ => trivial) (fun i v G G' hi ⟨sG, hD⟩ ⟨e, c, hc, ev⟩ => ?_) (fun G ⟨sG, hD⟩ => ?_)
          · subst e ev
            have hc' : (tl x)[i]? = some c := by simpa using hc
            have tk : (tl x).take (i + 1) = (tl x).take i ++ [c] := K2P.take_snoc hc'
            refine ⟨rfl, _, rfl, c, "abcdefghijklmnopqrstuvwxyz", rfl, rfl, _, rfl, ?_⟩
            by_cases m : c ∈ lets
            · refine ifN (show (!decide (c ∈ lets)) = false by rw [decide_eq_true m]; rfl) ⟨sG, ?_⟩
              rw [hD, tk, List.filter_append]
              have : ([c].filter fun c => !decide (c ∈ lets)) = [] := by rw [List.filter_cons, if_neg (by simp [m])]; rfl
              rw [this, List.append_nil]
            · refine ifY (show (!decide (c ∈ lets)) = true by rw [decide_eq_false m]; rfl) ⟨_, rfl, _, hD, ?_, fun b o e => (upd_ne (ne_of_none e nD)).trans (sG b o e), ?_⟩
              · rw [List.length_map, sizeLine_eq]
                have := List.length_filter_le (fun c => !decide (c ∈ lets)) ((tl x).take i)
                rw [List.length_take] at this
                omega
              · rw [upd_same, tk, List.filter_append, List.map_append]
                have : ([c].filter fun c => !decide (c ∈ lets)) = [c] := by rw [List.filter_cons, if_pos (by simp [m])]; rfl
                rw [this]
                rfl
          · refine ⟨D, _, rfl, .inl (SqL.of hD), rfl, ?_⟩
            have q := go G sG
            have sz : x.cps.size = (tl x).length := l0.symm
            rw [sz, List.take_length, List.length_map]
            have e : nmV (.str x) = decide (V.int ((((tl x).filter fun c => !decide (c ∈ lets)).length : Nat) : Int) = V.int 0) := by
              have e1 : nmV (.str x) = (tl x).all fun c => decide (c ∈ lets) := by
                show isNm x = _
                unfold isNm
                rw [decide_eq_true (by omega), decide_eq_true (by omega)]
                rfl
              rw [e1]
              by_cases ha : ∀ c ∈ tl x, c ∈ lets
              · rw [List.all_eq_true.mpr fun c hc => decide_eq_true (ha c hc)]
                have : ((tl x).filter fun c => !decide (c ∈ lets)) = [] := List.filter_eq_nil_iff.mpr fun c hc => by simp [ha c hc]
                rw [this]
                rfl
              · have f : ((tl x).all fun c => decide (c ∈ lets)) = false := by
                  rw [List.all_eq_false]
                  obtain ⟨c, h⟩ := Classical.not_forall.mp ha
                  obtain ⟨hc, h⟩ := Classical.not_imp.mp h
                  exact ⟨c, hc, by simp [h]⟩
                rw [f]
                refine (decide_eq_false fun z => ?_).symm
                have z := V.int.inj z
                have z2 := List.length_eq_zero_iff.mp (Int.ofNat.inj z)
                exact ha fun c hc => Classical.byContradiction fun n => List.filter_eq_nil_iff.mp z2 c hc (by simp [n])
            rw [e] at q
            exact q
        · rw [decide_eq_false (show ¬ (x.length : Int) < 5 by omega)]
          refine ifY rfl (no ?_)
          show isNm x = false
          unfold isNm
          rw [decide_eq_false (show ¬ (tl x).length ≤ 4 by omega), Bool.and_false, Bool.false_and]
      · refine ifN (decide_eq_false (by omega)) ⟨_, rfl, ifY rfl (no ?_)⟩
        show isNm x = false
        unfold isNm
        rw [decide_eq_false (show ¬ 1 ≤ (tl x).length by omega), Bool.false_and, Bool.false_and]
    | non => exact ifY rfl (no rfl)
    | bl b => exact ifY rfl (no rfl)
    | int i => exact ifY rfl (no rfl)
    | lst h => exact ifY rfl (no rfl)
    | tup h => exact ifY rfl (no rfl)
theorem ok_lfault {f : Addr} {fd : FuncData} (F : Fun K "_law_fault" "_law_fault" sLFault f fd) (T : LChkTxt mg) (UW : CallT P w K mg base CX0 1 "_law_words" [] spWords fW dW) (UE : CallT P w K mg base CX0 2 "_law_elders" ["word"] spLEl fE dE)
    (UB : CallT P w K mg base CX0 1 "_law_is_between" ["number_v", "low", "high"] spLBt fB dB) (UN : CallT P w K mg base CX0 1 "_law_is_name" ["name"] spIsName fN dN) : FnOk P w K mg base CX0 3 f fd ["step", "there"] spLFault := by
  refine F.ok scLFault (fun vs H Q E h => ?_) (fun cdv Ar outer s H vs Q E hr h => ?_)
  · obtain ⟨x, A, names, rfl, _⟩ := h
    rfl
  · obtain ⟨x, A, names, rfl, hA, h⟩ := h
    refine ⟨_, (pss_cons (ps_if (PW.pt (pw_or (pt_not (pt_val (pe_callB call_isiT (by rfl) T.isinst (by decide +kernel) (pa_cons (pv 0) (pa_cons (pe_tup (pa_cons (pe_bltn (v := .ty "list") (u := .type "list") (by rfl) T.list (by decide +kernel) (by exact rfl)) (pa_cons (pe_bltn (v := .ty "tuple") (u := .type "tuple") (by rfl) T.tuple (by decide +kernel) (by exact rfl)) pa_nil))) pa_nil))))) (pw_or (pt_cmpR op_eq (pe_callB call_len_seq (by rfl) T.len PySem.boot_len (pa_cons (pv 0) pa_nil)) pe_int (nomark _)) (pw_or1 (pt_not (pt_val (pe_callB call_isi (by rfl) T.isinst (by decide +kernel) (pa_cons (pe_ix ix_seq (pv 0) pe_int (fun _ _ => rfl)) (pa_cons (pe_bltn (v := .ty "str") (u := .type "str") (by rfl) T.str (by decide +kernel) (by exact rfl)) pa_nil))))))))) (pss_one (ps_ret pe_int)) pss_nil)
      (pss_cons (ps_if (PW.pt (pw_or (pt_cmpR op_notIn_seq (pe_ix ix_seq (pv 0) pe_int (fun _ _ => rfl)) (pe_call0 UW.ok (hr.mono (by decide)) rfl UW.g UW.k UW.b .nil pass0) (by rfl)) (pw_or1 (pt_cmpR op_ne (pe_callB call_len_seq (by rfl) T.len PySem.boot_len (pa_cons (pv 0) pa_nil)) (pe_op op_add (pe_op op_add pe_int (pe_call UE.ok (hr.mono (by decide)) rfl UE.g UE.k UE.b .nil pass0 (pa_cons (pe_ix ix_seq (pv 0) pe_int (fun _ _ => rfl)) pa_nil))) (pe_op op_mul pe_int (pe_callTy call_int1 (by rfl) T.int (by decide +kernel) (pa_cons (pe_cmpR op_eq (pe_ix ix_seq (pv 0) pe_int (fun _ _ => rfl)) pe_str (nomark _)) pa_nil)))) (nomark _))))) (pss_one (ps_ret pe_int)) pss_nil)
      (pss_cons (ps_if (PW.pt (pw_or (pt_not (pt_val (pe_call UN.ok (hr.mono (by decide)) rfl UN.g UN.k UN.b .nil pass0 (pa_cons (pe_ix ix_seq (pv 0) pe_int (fun _ _ => rfl)) pa_nil)))) (pw_or1 (pt_cmpR op_in_seq (pe_ix ix_seq (pv 0) pe_int (fun _ _ => rfl)) (pv 1) (by rfl))))) (pss_one (ps_ret pe_int)) pss_nil)
      (pss_cons (ps_for PassesOwn.never rfl (pi_range1 (by rfl) T.range (pa_cons (pe_call UE.ok (hr.mono (by decide)) rfl UE.g UE.k UE.b .nil pass0 (pa_cons (pe_ix ix_seq (pv 0) pe_int (fun _ _ => rfl)) pa_nil)) pa_nil)) (pg_name (i := 2) scLFault.nd rfl (Or.inl rfl)) (pss_one (ps_if (PW.pt (pw_or (pt_not (pt_val (pe_callB call_isi (by rfl) T.isinst (by decide +kernel) (pa_cons (pe_ix ix_seq (pv 0) (pe_op op_add (pv 2) pe_int) (fun _ _ => rfl)) (pa_cons (pe_bltn (v := .ty "str") (u := .type "str") (by rfl) T.str (by decide +kernel) (by exact rfl)) pa_nil))))) (pw_or1 (pt_cmpR op_notIn_seq (pe_ix ix_seq (pv 0) (pe_op op_add (pv 2) pe_int) (fun _ _ => rfl)) (pv 1) (by rfl))))) (pss_one (ps_ret (pe_op op_add (pv 2) pe_int))) pss_nil)))
      (pss_cons (ps_if (PW.pt (pw_and (pt_cmpR op_eq (pe_ix ix_seq (pv 0) pe_int (fun _ _ => rfl)) pe_str (nomark _)) (pw_and1 (pt_not (pt_val (pe_call UB.ok (hr.mono (by decide)) rfl UB.g UB.k UB.b .nil pass0 (pa_cons (pe_ix ix_seq (pv 0) pe_int (fun _ _ => rfl)) (pa_cons (pe_un un_neg pe_int) (pa_cons pe_int pa_nil))))))))) (pss_one (ps_ret pe_int)) pss_nil)
      (pss_cons (ps_if (PW.pt (pw_and (pt_cmpR op_eq (pe_ix ix_seq (pv 0) pe_int (fun _ _ => rfl)) pe_str (nomark _)) (pw_and1 (pt_not (pt_val (pe_call UB.ok (hr.mono (by decide)) rfl UB.g UB.k UB.b .nil pass0 (pa_cons (pe_ix ix_seq (pv 0) pe_int (fun _ _ => rfl)) (pa_cons pe_int (pa_cons pe_int pa_nil))))))))) (pss_one (ps_ret pe_int)) pss_nil)
      (pss_one (ps_ret pe_non)))))))), ?_⟩
    rcases h with ⟨ns, go⟩ | ⟨us, sq, pl, lu, bad, good⟩
    · refine ⟨_, rfl, by show 2 ≤ sizeLine; decide, fun tp nt => ?_⟩
      dsimp only [tNil]
      refine isSeq_no ns upd_same ⟨_, rfl, ifY rfl ?_⟩
      exact go _ (same_new nt)
    refine ⟨_, rfl, by show 2 ≤ sizeLine; decide, fun tp nt => ?_⟩
    dsimp only [tNil]
    refine isSeq_yes (sq.up (same_new nt)) upd_same ⟨_, rfl, ifN rfl ?_⟩
    have s1 := same_new (o := .tup [.ty "list", .ty "tuple"]) nt
    generalize upd H tp (.tup [.ty "list", .ty "tuple"]) = H1 at s1 ⊢
    have sq1 := sq.up s1
    obtain ⟨a, rfl, sqa⟩ := sq1.sq (K := K)
    refine ⟨_, rfl, a, us, rfl, sqa, rfl, _, rfl, ?_⟩
    cases us with
    | nil => exact ifY (by decide) (bad 0 rfl _ s1)
    | cons u us =>
      refine ifN (decide_eq_false fun z => by have := V.int.inj z; rw [List.length_cons] at this; omega) ?_
      obtain ⟨t, ty, ks, _, _⟩ := ((pl u List.mem_cons_self).up s1).ty (K := K)
      refine ⟨_, rfl, sq1.ix (k := 0) rfl ?_⟩
      refine isiC ty ks ⟨_, rfl, ?_⟩
      cases u with
      | str y =>
        refine ifN rfl ?_
        refine ⟨_, rfl, sq1.ix (k := 0) rfl ⟨rfl, fun p G sG np hp => ⟨p, _, rfl, .inl (SqL.of hp), rfl, flat_words, _, rfl, ?_⟩⟩⟩
        rw [if_pos rfl, in_strs, mem_words]
        cases hw : wdOf y with
        | none => exact ifY rfl (bad 0 (by simp [chkAt, formedL, hw]) _ (s1.trans sG))
        | some d =>
          obtain rfl := wdOf_eq hw
          refine ifN rfl ?_
          have sq2 := sq.up (s1.trans sG)
          obtain ⟨a2, ea, sqa2⟩ := sq2.sq (K := K)
          cases ea
          refine ⟨_, rfl, a, _, rfl, sqa2, _, rfl, sq2.ix (k := 0) rfl ⟨d, rfl, fun G2 s2 => ⟨_, _, rfl, rfl, _, rfl, (sq2.up s2).ix (k := 0) rfl ⟨rfl, .inr ⟨_, rfl, _, _, rfl, rfl, .inl ⟨by decide, by decide⟩, _, _, rfl, rfl, rfl, _, rfl, ?_⟩⟩⟩⟩⟩
          rw [wdS_part]
          have h2 := (s1.trans sG).trans s2
          clear s1 sG s2 sq1 sqa sq2 sqa2 hw
          have hn := arN_part d
          have hfl : formedL (.str (wdS d) :: us) = decide (us.length = 1 + (arP d + arN d)) := by
            simp only [formedL, wdOf_wdS]
          by_cases hl : us.length = 1 + (arP d + arN d)
          · have hX : V.int (((V.str (wdS d) :: us).length : Nat) : Int) = V.int ((2 + ((arP d : Nat) : Int)) + 2 * if decide (d = .part) = true then 1 else 0) := by
              refine congrArg V.int ?_
              rw [List.length_cons, hl, hn]
              by_cases hd : d = .part
              · rw [hd]; rfl
              · rw [if_neg hd, decide_eq_false hd]; simp; omega
            refine ifN (congrArg Bool.not (decide_eq_true hX)) ?_
            clear hX
            match us, hl with
            | [], hl => simp at hl; omega
            | u :: ms, hl =>
            have lm : ms.length = arP d + arN d := by rw [List.length_cons] at hl; omega
            rw [decide_eq_true hl] at hfl
            have ce : chkAt names (.str (wdS d) :: u :: ms) = if (nmV u && !inN names u) = true then (wrongAt names (formT d).cps.toList ms).map (2 + ·) else some 1 := by
              unfold chkAt
              rw [if_pos hfl]
              show (if (nmV u && !inN names u) = true then (match wdOf (wdS d) with
                | some wd => (wrongAt names (formT wd).cps.toList ms).map (2 + ·)
                | none => some 0) else some 1) = _
              rw [wdOf_wdS]
            have pu := (pl u (List.mem_cons_of_mem _ List.mem_cons_self)).up h2
            refine ⟨_, rfl, (sq.up h2).ix (k := 1) rfl ⟨u, rfl, pu, fun G3 s3 => ⟨_, rfl, ?_⟩⟩⟩
            have h3 := h2.trans s3
            clear pu
            cases hnm : nmV u with
            | false =>
              refine ifY rfl ?_
              rw [hnm] at ce
              exact bad 1 ce _ h3
            | true =>
              refine ifN rfl ?_
              cases u with
              | str y =>
                refine ⟨_, rfl, (sq.up h3).ix (k := 1) rfl ⟨_, rfl, A, _, rfl, .inl (SqL.of (h3 _ _ hA)), rfl, flat_strs _, _, rfl, ?_⟩⟩
                rw [if_neg Bool.false_ne_true, in_strs]
                rw [hnm] at ce
                by_cases hy : y ∈ names
                · refine ifY (decide_eq_true hy) ?_
                  refine bad 1 ?_ _ h3
                  rw [ce]
                  show (if (true && !decide (y ∈ names)) = true then _ else some 1) = some 1
                  rw [decide_eq_true hy]
                  rfl
                · refine ifN (decide_eq_false hy) ?_
                  have ce1 : chkAt names (.str (wdS d) :: .str y :: ms) = (wrongAt names (formT d).cps.toList ms).map (2 + ·) := by
                    rw [ce]
                    show (if (true && !decide (y ∈ names)) = true then _ else some 1) = _
                    rw [decide_eq_false hy]
                    rfl
                  have pm : Pls H ms := fun z m => pl z (List.mem_cons_of_mem _ (List.mem_cons_of_mem _ m))
                  clear ce hnm hfl hl
                  have a4 := ar4 d
                  refine ⟨_, rfl, (sq.up h3).ix (k := 0) rfl ⟨d, rfl, fun G4 s4 => ⟨_, rfl, by omega, by omega, ?_⟩⟩⟩
                  rw [Int.toNat_natCast]
                  have h4 := h3.trans s4
                  have fc := form_cps d
                  refine for_it (walk_range (lo := 0) (n := arP d)) (fun i σ G => ∃ u2 : Option V, σ = [some (.ref a), some (.ref A), u2] ∧ Same H G ∧ wrongAt names (formT d).cps.toList ms = (wrongAt names ((formT d).cps.toList.drop i) (ms.drop i)).map (· + i))
                    ⟨_, rfl, h4, by simp⟩ (fun _ _ _ _ _ => trivial) (fun i v σ F0 F hi ⟨u2, hσ, sG, hw⟩ ⟨e, ev⟩ => ?_) (fun σ G ⟨u2, hσ, sG, hw⟩ => ?_)
                  · subst hσ e ev
                    have hc : (formT d).cps.toList[i]? = some 112 := by
                      rw [fc, List.getElem?_append_left (by rw [List.length_replicate]; exact hi), List.getElem?_replicate, if_pos hi]
                    have hi' : i < ms.length := by omega
                    have hu := List.getElem?_eq_getElem hi'
                    generalize ms[i] = v at hu
                    have go1 := wrong_go (names := names) hc hu
                    have pv := (pm v (List.mem_of_getElem? hu)).up sG
                    obtain ⟨t2, ty2, ks2, _, _⟩ := pv.ty (K := K)
                    refine ⟨_, rfl, _, rfl, _, _, rfl, rfl, (sq.up sG).ixI (k := i + 2) (by omega) hu ?_⟩
                    refine isiC ty2 ks2 ⟨_, rfl, ?_⟩
                    have bk : memV names 112 v = false → Q (.int ((0 + (i : Int)) + 2)) F := fun e => by
                      rw [if_neg (by rw [e]; exact Bool.false_ne_true)] at go1
                      have e3 : chkAt names (.str (wdS d) :: .str y :: ms) = some (i + 2) := by
                        rw [ce1, hw, go1]
                        show some (2 + (0 + i)) = _
                        congr 1
                        omega
                      rw [Int.zero_add]
                      exact bad _ e3 _ sG
                    have nx : memV names 112 v = true → ∃ u2 : Option V, [some (.ref a), some (.ref A), some (.int (0 + (i : Int)))] = [some (.ref a), some (.ref A), u2] ∧ Same H F ∧ wrongAt names (formT d).cps.toList ms = (wrongAt names ((formT d).cps.toList.drop (i + 1)) (ms.drop (i + 1))).map (· + (i + 1)) := fun e => by
                      rw [if_pos e] at go1
                      refine ⟨_, rfl, sG, ?_⟩
                      rw [hw, go1, Option.map_map]
                      congr 1
                      funext k
                      show k + 1 + i = k + (i + 1)
                      omega
                    cases v with
                    | str x =>
                      refine ifN rfl ?_
                      refine ⟨_, rfl, _, rfl, _, _, rfl, rfl, (sq.up sG).ixI (k := i + 2) (by omega) hu ⟨_, rfl, A, _, rfl, .inl (SqL.of (sG _ _ hA)), rfl, flat_strs _, _, rfl, ?_⟩⟩
                      rw [if_pos rfl, in_strs]
                      by_cases hx : x ∈ names
                      · rw [decide_eq_true hx]
                        exact ifN rfl (nx (decide_eq_true hx))
                      · rw [decide_eq_false hx]
                        refine ifY rfl ⟨_, rfl, _, _, rfl, rfl, ?_⟩
                        exact bk (decide_eq_false hx)
                    | _ =>
                      refine ifY rfl ⟨_, rfl, _, _, rfl, rfl, ?_⟩
                      exact bk rfl
                  · subst hσ
                    have sqG := sq.up sG
                    refine ⟨_, rfl, sqG.ix (k := 0) rfl ⟨rfl, _, rfl, ?_⟩⟩
                    rw [wdS_part]
                    by_cases hd : d = .part
                    · subst hd
                      match ms, lm with
                      | [m0, m1, m2, m3], lm =>
                      have hw : wrongAt names (formT .part).cps.toList [m0, m1, m2, m3] = (if memV names 110 m2 = true then (if memV names 100 m3 = true then Option.map (· + 1) Option.none else some 0).map (· + 1) else some 0).map (· + 2) := hw
                      rw [memV_n, memV_d] at hw
                      have p2 := (pm m2 (by simp)).up sG
                      refine ifY rfl ⟨_, rfl, sqG.ix (k := 4) rfl ⟨_, rfl, m2, _, _, rfl, p2, fun G5 s5 => ⟨_, rfl, ?_⟩⟩⟩
                      have h5 := sG.trans s5
                      cases hb : btw (-100) 100 m2 with
                      | false =>
                        rw [hb] at hw
                        exact ifY rfl (bad 4 (by rw [ce1, hw]; rfl) _ h5)
                      | true =>
                        rw [hb] at hw
                        refine ifN rfl ⟨_, rfl, (sq.up h5).ix (k := 0) rfl ⟨rfl, _, rfl, ?_⟩⟩
                        rw [wdS_part]
                        refine ifY rfl ⟨_, rfl, (sq.up h5).ix (k := 5) rfl ⟨m3, _, _, rfl, (pm m3 (by simp)).up h5, fun G6 s6 => ⟨_, rfl, ?_⟩⟩⟩
                        cases hb2 : btw 1 100 m3 with
                        | false =>
                          rw [hb2] at hw
                          exact ifY rfl (bad 5 (by rw [ce1, hw]; rfl) _ (h5.trans s6))
                        | true =>
                          rw [hb2] at hw
                          exact ifN rfl (good (by rw [ce1, hw]; rfl) _ (h5.trans s6))
                    · have hm : ms.length = arP d := by rw [lm, hn, if_neg hd]; rfl
                      have hcn : (formT d).cps.toList.drop (arP d) = [] := by
                        rw [fc, if_neg (by rw [hn, if_neg hd]; decide), List.append_nil]
                        exact List.drop_eq_nil_of_le (by rw [List.length_replicate]; exact Nat.le_refl _)
                      have ok : chkAt names (.str (wdS d) :: .str y :: ms) = none := by
                        rw [ce1, hw, hcn]
                        rfl
                      rw [decide_eq_false hd]
                      refine ifN rfl ⟨_, rfl, sqG.ix (k := 0) rfl ⟨rfl, _, rfl, ?_⟩⟩
                      rw [wdS_part, decide_eq_false hd]
                      exact ifN rfl (good ok _ sG)
              | _ => cases hnm
          · have hX : ¬ (V.int (((V.str (wdS d) :: us).length : Nat) : Int) = V.int ((2 + ((arP d : Nat) : Int)) + 2 * if decide (d = .part) = true then 1 else 0)) := fun z => by
              have z := V.int.inj z
              rw [hn] at hl
              rw [List.length_cons] at z
              by_cases hd : d = .part
              · rw [if_pos hd] at hl
                rw [decide_eq_true hd, if_pos rfl] at z
                omega
              · rw [if_neg hd] at hl
                rw [decide_eq_false hd, if_neg Bool.false_ne_true] at z
                omega
            exact ifY (congrArg Bool.not (decide_eq_false hX)) (bad 0 (by unfold chkAt; rw [hfl, decide_eq_false hl]; rfl) _ h2)
      | _ => exact ifY rfl (bad 0 rfl _ s1)
end
end CN

set_option Elab.async false
set_option linter.all false
set_option maxRecDepth 100000
set_option maxHeartbeats 4000000
set_option autoImplicit false
set_option pp.maxSteps 600
/-! The law's good steps. -/
namespace CN
open PySem L2 TL K1D K2P
open K4 (isNm lets)
abbrev sLight : Stmt := K2P.top 71
abbrev sStep : Stmt := K2P.top 72
def rLenQ (K : PySem.W.Frag) : List V → Hp → VK → Prop := fun xs H Q => ∃ p ys, xs = [.ref p] ∧ (SqL K H p ys ∨ SqT K H p ys) ∧ Q (.int ys.length) H
theorem call_lenQ {X : Cx} : CallR X (.builtin "len") (rLenQ X.K) := call_len_seq
def tPop (K : PySem.W.Frag) (i : Nat) : TE := tBM K "list" rPopAt (tVar i) (tCons (tCall spDraw [] E0 (tCons (tVar 0) (tCons (tCB (rLenQ K) (tCons (tVar i) tNil)) tNil))) tNil)
def spLStep (light : Bool) : Sp := fun vs H Q _ => ∃ (p l : Addr) (B : Bk) (c : Cst) (ws fs : List (Str × Nat)) (nm : Str), vs = [.ref p, .ref B.b, .str nm] ∧ StL H p l ∧ BookAt H B c ws fs ∧ (B.b ≠ p ∧ B.s ≠ p ∧ B.t ≠ p ∧ B.f ≠ p ∧ B.w ≠ p) ∧ Inv c ws fs ∧ isNm nm = true ∧ nm ∉ c.names ∧ (light = true → c.names ≠ []) ∧
  ∀ (s : Stp) (wt : Nat) (a t : Addr) (G : Hp), StL G p l → Bt p H G → StepOk c nm s wt → G a = some (.tup [.ref t, .int (wt : Nat)]) → G t = some (.tup s.vals) → Q (.ref a) G
/-! ### maths -/
def lightW (d : Wd) : Prop := d = .slide ∨ d = .part ∨ d = .shift ∨ d = .turn ∨ d = .over
theorem light_ok {c : Cst} {ws fs : List (Str × Nat)} {nm : Str} {d : Wd} {xs : List Str} {ks : List Nat} {nu : List Int} (h : Inv c ws fs) (hn : isNm nm = true) (new : nm ∉ c.names) (hd : lightW d) (sl : d = .slide → c.unk.length ≤ 7) (px : Paired (fun x k => wtOf ws x = some k ∧ k < 9) xs ks) (lx : xs.length = arP d)
    (ln : nu.length = arN d) (rn : ∀ (i : Nat) (k : Int), nu[i]? = some k → leastN (if i = 0 then 110 else 100) ≤ k ∧ k ≤ 100) (ne : c.names ≠ []) : StepOk c nm ⟨d, nm, xs, nu⟩ (1 + ks.sum + (if d = .part then 2 else 0)) := by
  have mem : ∀ {x k}, wtOf ws x = some k ∧ k < 9 → x ∈ c.names ∧ ∃ p, c.pt x = some p ∧ Lt k p := fun {x k} ⟨a, b⟩ => by
    have m := wtOf_mem a
    exact ⟨by rw [← h.nm]; exact List.mem_map.mpr ⟨_, m, rfl⟩, h.lt _ m b⟩
  have ul8 := h.ck.ul
  have ul : ∀ n, n = c.unk.length → Q3 (c.unk ++ newUnk (⟨d, nm, xs, nu⟩ : Stp)).length = Q3 (n + arU d) := fun n e => by rw [List.length_append, newUnk_len, e]
  have big : ∀ {el : List Str}, el = xs → ∀ x ∈ el, x ∈ c.names := fun {el} e x m => by
    rw [e] at m
    obtain ⟨i, hi⟩ := List.mem_iff_getElem?.mp m
    have li := (List.getElem?_eq_some_iff.mp hi).1
    have lk : i < ks.length := by rw [← Paired.length px]; exact li
    exact (mem (pair_get px hi (List.getElem?_eq_getElem lk))).1
  have rt : Right c.names ⟨d, nm, xs, nu⟩ := ⟨⟨lx, ln⟩, hn, new, big rfl, rn⟩
  have fin : ∀ (w : Nat) (P : P3), c.mk3 ⟨d, nm, xs, nu⟩ = P → Lt w P → Q3 (c.unk.length + arU d) P → c.unk.length + arU d ≤ 8 → w ≤ 27 → cnt P.x ≤ 1600 ∧ cnt P.y ≤ 1600 → w ≤ 1 + ks.sum + (if d = .part then 2 else 0) → 1 + ks.sum + (if d = .part then 2 else 0) ≤ 99 → StepOk c nm ⟨d, nm, xs, nu⟩ (1 + ks.sum + (if d = .part then 2 else 0)) := by
    intro w P e lt q u8 w27 few le l99
    have sz := lt.sz w27 few.1 few.2
    have un : (c.unk ++ newUnk (⟨d, nm, xs, nu⟩ : Stp)).length = c.unk.length + arU d := by rw [List.length_append, newUnk_len]
    refine ⟨rfl, rt, by rw [un]; exact u8, by rw [un, e]; exact q, by rw [e]; exact sz, ?_, fun _ => by rw [e]; exact lt.mono le, fun z => absurd z ne, l99, fun z => ?_⟩
    · rw [e]
      exact nz_sz q sz (v := fun _ => 0) (by have := lt.pw fun _ => 0; omega)
    · have z : d = .free := z
      subst z
      rcases hd with h | h | h | h | h <;> cases h
  have two : ∀ {l : List Nat} {x1 x2 : Str}, Paired (fun x k => wtOf ws x = some k ∧ k < 9) [x1, x2] l → ∃ k1 k2 p1 p2, l = [k1, k2] ∧ k1 < 9 ∧ k2 < 9 ∧ c.pt x1 = some p1 ∧ c.pt x2 = some p2 ∧ Lt k1 p1 ∧ Lt k2 p2 := fun {l x1 x2} h => by
    cases h with
    | cons h1 h =>
      cases h with
      | cons h2 h =>
        cases h
        obtain ⟨_, p1, e1, l1⟩ := mem h1
        obtain ⟨_, p2, e2, l2⟩ := mem h2
        exact ⟨_, _, p1, p2, rfl, h1.2, h2.2, e1, e2, l1, l2⟩
  have three : ∀ {l : List Nat} {x1 x2 x3 : Str}, Paired (fun x k => wtOf ws x = some k ∧ k < 9) [x1, x2, x3] l → ∃ k1 k2 k3 p1 p2 p3, l = [k1, k2, k3] ∧ k1 < 9 ∧ k2 < 9 ∧ k3 < 9 ∧ c.pt x1 = some p1 ∧ c.pt x2 = some p2 ∧ c.pt x3 = some p3 ∧ Lt k1 p1 ∧ Lt k2 p2 ∧ Lt k3 p3 := fun {l x1 x2 x3} h => by
    cases h with
    | cons h1 h =>
      obtain ⟨k2, k3, p2, p3, rfl, a2, a3, e2, e3, l2, l3⟩ := two h
      obtain ⟨_, p1, e1, l1⟩ := mem h1
      exact ⟨_, _, _, p1, p2, p3, rfl, h1.2, a2, a3, e1, e2, e3, l1, l2, l3⟩
  have q0 : ∀ {x p} (n : Nat), c.pt x = some p → c.unk.length ≤ n → Q3 n p := fun {x p} n e l => q3_mono (h.q3 x p e) l
  clear mem ul big
  rcases hd with rfl | rfl | rfl | rfl | rfl
  · obtain ⟨x1, x2, rfl⟩ := len2 lx
    obtain ⟨k1, k2, p1, p2, rfl, a1, a2, e1, e2, l1, l2⟩ := two px
    have f1 := l1.few a1
    have f2 := l2.few a2
    refine fin (1 + (k1 + k2)) (slidX p1 p2 (.var c.unk.length)) ?_ (lt_slid l1 l2) (q_slid (q0 _ e1 (by omega)) (q0 _ e2 (by omega)) (lv_var (by show _ < c.unk.length + 1; omega))) (by have := sl rfl; show c.unk.length + 1 ≤ 8; omega) (by omega) ⟨?_, ?_⟩ (by simp) (by simp; omega)
    · unfold Cst.mk3 Stp.mk3
      dsimp only
      simp only [List.map_cons, List.map_nil, e1, e2, Option.getD_some]
      rfl
    · show cnt p1.x * cnt p2.w + 1 * (cnt p2.x * cnt p1.w + cnt p1.x * cnt p2.w) ≤ 1600
      rw [l1.cw, l2.cw]; omega
    · show cnt p1.y * cnt p2.w + 1 * (cnt p2.y * cnt p1.w + cnt p1.y * cnt p2.w) ≤ 1600
      rw [l1.cw, l2.cw]; omega
  · obtain ⟨x1, x2, rfl⟩ := len2 lx
    obtain ⟨k1, k2, p1, p2, rfl, a1, a2, e1, e2, l1, l2⟩ := two px
    obtain ⟨n, m, rfl⟩ := len2 ln
    have f1 := l1.few a1
    have f2 := l2.few a2
    have r0 : (-100 : Int) ≤ n ∧ n ≤ 100 := rn 0 n rfl
    have r1 : (1 : Int) ≤ m ∧ m ≤ 100 := rn 1 m rfl
    refine fin (1 + (k1 + k2)) (partX p1 p2 n m) ?_ (lt_part l1 l2 (by omega)) (q_part (q0 _ e1 (by omega)) (q0 _ e2 (by omega)) (by omega) (by omega)) ul8 (by omega) ⟨?_, ?_⟩ (by simp) (by simp; omega)
    · unfold Cst.mk3 Stp.mk3
      dsimp only
      simp only [List.map_cons, List.map_nil, e1, e2, Option.getD_some]
      rfl
    · show cnt p1.x * cnt p2.w + (cnt p2.x * cnt p1.w + cnt p1.x * cnt p2.w) ≤ 1600
      rw [l1.cw, l2.cw]; omega
    · show cnt p1.y * cnt p2.w + (cnt p2.y * cnt p1.w + cnt p1.y * cnt p2.w) ≤ 1600
      rw [l1.cw, l2.cw]; omega
  · obtain ⟨x1, x2, x3, rfl⟩ := len3 lx
    obtain ⟨k1, k2, k3, p1, p2, p3, rfl, a1, a2, a3, e1, e2, e3, l1, l2, l3⟩ := three px
    have f1 := l1.few a1
    have f2 := l2.few a2
    have f3 := l3.few a3
    refine fin (1 + (k1 + k2 + k3)) (shiftX p1 p2 p3) ?_ (lt_shift l1 l2 l3) (q_shift (q0 _ e1 (by omega)) (q0 _ e2 (by omega)) (q0 _ e3 (by omega))) ul8 (by omega) ⟨?_, ?_⟩ (by simp; omega) (by simp; omega)
    · unfold Cst.mk3 Stp.mk3
      dsimp only
      simp only [List.map_cons, List.map_nil, e1, e2, e3, Option.getD_some]
      rfl
    · show cnt p1.x * (cnt p2.w * cnt p3.w) + cnt p1.w * (cnt p3.x * cnt p2.w + cnt p2.x * cnt p3.w) ≤ 1600
      rw [l1.cw, l2.cw, l3.cw]; omega
    · show cnt p1.y * (cnt p2.w * cnt p3.w) + cnt p1.w * (cnt p3.y * cnt p2.w + cnt p2.y * cnt p3.w) ≤ 1600
      rw [l1.cw, l2.cw, l3.cw]; omega
  · obtain ⟨x1, x2, x3, rfl⟩ := len3 lx
    obtain ⟨k1, k2, k3, p1, p2, p3, rfl, a1, a2, a3, e1, e2, e3, l1, l2, l3⟩ := three px
    have f1 := l1.few a1
    have f2 := l2.few a2
    have f3 := l3.few a3
    refine fin (1 + (k1 + k2 + k3)) (turnX p1 p2 p3) ?_ (lt_turn l1 l2 l3) (q_turn (q0 _ e1 (by omega)) (q0 _ e2 (by omega)) (q0 _ e3 (by omega))) ul8 (by omega) ⟨?_, ?_⟩ (by simp; omega) (by simp; omega)
    · unfold Cst.mk3 Stp.mk3
      dsimp only
      simp only [List.map_cons, List.map_nil, e1, e2, e3, Option.getD_some]
      rfl
    · show cnt p1.x * (cnt p2.w * cnt p3.w) + cnt p1.w * (cnt p3.y * cnt p2.w + cnt p2.y * cnt p3.w) ≤ 1600
      rw [l1.cw, l2.cw, l3.cw]; omega
    · show cnt p1.y * (cnt p2.w * cnt p3.w) + cnt p1.w * (cnt p3.x * cnt p2.w + cnt p2.x * cnt p3.w) ≤ 1600
      rw [l1.cw, l2.cw, l3.cw]; omega
  · obtain ⟨x1, x2, rfl⟩ := len2 lx
    obtain ⟨k1, k2, p1, p2, rfl, a1, a2, e1, e2, l1, l2⟩ := two px
    have f1 := l1.few a1
    have f2 := l2.few a2
    refine fin (1 + (k1 + k2)) (overX p1 p2) ?_ (lt_over l1 l2) (q_over (q0 _ e1 (by omega)) (q0 _ e2 (by omega))) ul8 (by omega) ⟨?_, ?_⟩ (by simp) (by simp; omega)
    · unfold Cst.mk3 Stp.mk3
      dsimp only
      simp only [List.map_cons, List.map_nil, e1, e2, Option.getD_some]
      rfl
    · show cnt p2.x * cnt p1.w + cnt p1.x * cnt p2.w ≤ 1600
      rw [l1.cw, l2.cw]; omega
    · show cnt p2.y * cnt p1.w + cnt p1.y * cnt p2.w ≤ 1600
      rw [l1.cw, l2.cw]; omega
theorem free_ok {c : Cst} {ws fs : List (Str × Nat)} {nm : Str} (h : Inv c ws fs) (hn : isNm nm = true) (new : nm ∉ c.names) (u : c.unk.length + 2 ≤ 8) : StepOk c nm ⟨.free, nm, [], []⟩ 0 := by
  have un : (c.unk ++ newUnk (⟨.free, nm, [], []⟩ : Stp)).length = c.unk.length + 2 := by rw [List.length_append, newUnk_len]; rfl
  have e : c.mk3 ⟨.free, nm, [], []⟩ = CN.fr c.unk.length := rfl
  have q : Q3 (c.unk.length + 2) (CN.fr c.unk.length) := q_fr (by omega)
  have sz : szOk (CN.fr c.unk.length) = true := by rw [← szOk_shp, shp_fr, szOk_shp]; decide +kernel
  refine ⟨rfl, ⟨⟨rfl, rfl⟩, hn, new, fun _ m => (nomatch m), fun i k h => by cases i <;> cases h⟩, by rw [un]; exact u, by rw [un, e]; exact q, by rw [e]; exact sz, ?_, fun _ => by rw [e]; exact lt_free, fun _ => rfl, by decide, fun _ => rfl⟩
  rw [e]
  exact nz_sz q sz (v := fun _ => 0) (by show (1 : Int) ≠ 0; decide)
def apF (a b : Str × Nat) : Prop := a.2 + 2 ≤ b.2 ∨ b.2 + 2 ≤ a.2
theorem heavy_ok {c : Cst} {ws fs : List (Str × Nat)} {nm : Str} {e1 e2 e3 : Str × Nat} (h : Inv c ws fs) (hn : isNm nm = true) (new : nm ∉ c.names) (m1 : e1 ∈ fs) (m2 : e2 ∈ fs) (m3 : e3 ∈ fs) (a12 : apF e1 e2) (a13 : apF e1 e3) (a23 : apF e2 e3) {d : Wd}
    (hd : d = .mirror ∨ d = .foot ∨ d = .meet ∨ d = .second ∨ d = .centre) : StepOk c nm ⟨d, nm, if d = .meet then [e1.1, e2.1, e3.1, e1.1] else [e1.1, e2.1, e3.1], []⟩ 99 := by
  obtain ⟨p1, n1⟩ := h.fr e1 m1
  obtain ⟨p2, n2⟩ := h.fr e2 m2
  obtain ⟨p3, n3⟩ := h.fr e3 m3
  have ne : c.names ≠ [] := fun z => by have := pt_mem p1; rw [z] at this; cases this
  obtain ⟨v1, v2, v3, v4, v5⟩ := heavy_ev (i := e1.2) (j := e2.2) (k := e3.2) a12 a13 a23
  have q1 : Q3 c.unk.length (CN.fr e1.2) := q_fr n1
  have q2 : Q3 c.unk.length (CN.fr e2.2) := q_fr n2
  have q3 : Q3 c.unk.length (CN.fr e3.2) := q_fr n3
  have fin : ∀ {el : List Str} {P : P3} {s : Nat → Int}, arU d = 0 → arN d = 0 → el.length = arP d → (∀ x ∈ el, x = e1.1 ∨ x = e2.1 ∨ x = e3.1) → c.mk3 ⟨d, nm, el, []⟩ = P → Q3 c.unk.length P → szOk P = true → evX s P.w ≠ 0 → d ≠ .free → StepOk c nm ⟨d, nm, el, []⟩ 99 := by
    intro el P s au an ll hel e q sz z nf
    have un : (c.unk ++ newUnk (⟨d, nm, el, []⟩ : Stp)).length = c.unk.length := by rw [List.length_append, newUnk_len]; show _ + arU d = _; rw [au]; rfl
    refine ⟨rfl, ⟨⟨ll, an.symm⟩, hn, new, fun x m => ?_, fun i k h => by cases h⟩, by rw [un]; exact h.ck.ul, by rw [un, e]; exact q, by rw [e]; exact sz, by rw [e]; exact nz_sz q sz z, fun l => by omega, fun z => absurd z ne, by decide, fun z => absurd z nf⟩
    rcases hel x m with rfl | rfl | rfl
    · exact pt_mem p1
    · exact pt_mem p2
    · exact pt_mem p3
  have szs : ∀ x ∈ heavy, ∀ ps : List P3, ps.map shp3 = x.2.map (fun _ => shp3 (CN.fr 0)) → ps.length = arP x.1 → arU x.1 = 0 → arN x.1 = 0 → szOk (mkP x.1 ps [] []) = true := fun x m ps e l1 l2 l3 => by
    rw [← szOk_shp, shp3_mk x.1 ps [] [] l1 l2.symm l3.symm, e, szOk_shp]
    exact heavy_sz x m
  rcases hd with rfl | rfl | rfl | rfl | rfl
  · rw [if_neg (by decide)]
    refine fin rfl rfl rfl (by simp) (P := mirrorX (CN.fr e1.2) (CN.fr e2.2) (CN.fr e3.2)) ?_ (q_over q1 (q_foot q1 q2 q3)) (szs (.mirror, [0, 1, 2]) (by simp [heavy]) [CN.fr e1.2, CN.fr e2.2, CN.fr e3.2] rfl rfl rfl rfl) v1 (by decide)
    unfold Cst.mk3 Stp.mk3
    dsimp only
    simp only [List.map_cons, List.map_nil, p1, p2, p3, Option.getD_some]
    rfl
  · rw [if_neg (by decide)]
    refine fin rfl rfl rfl (by simp) (P := footX (CN.fr e1.2) (CN.fr e2.2) (CN.fr e3.2)) ?_ (q_foot q1 q2 q3) (szs (.foot, [0, 1, 2]) (by simp [heavy]) [CN.fr e1.2, CN.fr e2.2, CN.fr e3.2] rfl rfl rfl rfl) v2 (by decide)
    unfold Cst.mk3 Stp.mk3
    dsimp only
    simp only [List.map_cons, List.map_nil, p1, p2, p3, Option.getD_some]
    rfl
  · rw [if_pos rfl]
    refine fin rfl rfl rfl (by simp) (P := meetX (CN.fr e1.2) (CN.fr e2.2) (CN.fr e3.2) (CN.fr e1.2)) ?_ (q_meet q1 q2 q3 q1) (szs (.meet, [0, 1, 2, 0]) (by simp [heavy]) [CN.fr e1.2, CN.fr e2.2, CN.fr e3.2, CN.fr e1.2] rfl rfl rfl rfl) v3 (by decide)
    unfold Cst.mk3 Stp.mk3
    dsimp only
    simp only [List.map_cons, List.map_nil, p1, p2, p3, Option.getD_some]
    rfl
  · rw [if_neg (by decide)]
    refine fin rfl rfl rfl (by simp) (P := secondX (CN.fr e1.2) (CN.fr e2.2) (CN.fr e3.2)) ?_ (q_over q1 (q_foot q3 q1 q2)) (szs (.second, [0, 1, 2]) (by simp [heavy]) [CN.fr e1.2, CN.fr e2.2, CN.fr e3.2] rfl rfl rfl rfl) v4 (by decide)
    unfold Cst.mk3 Stp.mk3
    dsimp only
    simp only [List.map_cons, List.map_nil, p1, p2, p3, Option.getD_some]
    rfl
  · rw [if_neg (by decide)]
    refine fin rfl rfl rfl (by simp) (P := centreX (CN.fr e1.2) (CN.fr e2.2) (CN.fr e3.2)) ?_ (q_centre q1 q2 q3) (szs (.centre, [0, 1, 2]) (by simp [heavy]) [CN.fr e1.2, CN.fr e2.2, CN.fr e3.2] rfl rfl rfl rfl) v5 (by decide)
    unfold Cst.mk3 Stp.mk3
    dsimp only
    simp only [List.map_cons, List.map_nil, p1, p2, p3, Option.getD_some]
    rfl
theorem StL.ne_of {H : Hp} {p l a : Addr} {xs : List V} (h : StL H p l) (ha : H a = some (.tup xs)) : a ≠ p := fun z => by
  obtain ⟨ns, b, v, f, m, n, sd, h1, _⟩ := h
  rw [z, h1] at ha
  cases ha
def nearB (ws : List (Str × Nat)) (x : Str) : Bool := match wtOf ws x with | some k => decide (k < 9) | none => false
theorem near_of {ws : List (Str × Nat)} {x : Str} (h : nearB ws x = true) : ∃ k, wtOf ws x = some k ∧ k < 9 := by
  unfold nearB at h
  cases q : wtOf ws x with
  | some k => rw [q] at h; exact ⟨k, rfl, of_decide_eq_true h⟩
  | none => rw [q] at h; cases h
theorem near_ne {c : Cst} {ws fs : List (Str × Nat)} (h : Inv c ws fs) (ne : c.names ≠ []) : c.names.filter (nearB ws) ≠ [] := by
  cases q : ws with
  | nil => exact absurd (by rw [← h.nm, q]; rfl) ne
  | cons e r =>
    have z := h.z0 e r q
    have m : e.1 ∈ c.names := by rw [← h.nm, q]; exact List.mem_map.mpr ⟨e, List.mem_cons_self, rfl⟩
    have w : wtOf (e :: r) e.1 = some 0 := by unfold wtOf; rw [List.find?_cons, decide_eq_true rfl]; show some e.2 = _; rw [z]
    intro f
    have := List.filter_eq_nil_iff.mp f e.1 m
    exact this (by unfold nearB; rw [w]; rfl)
def lightL : List Wd := [.slide, .part, .shift, .turn, .over]
theorem lightL_at : ∀ n, n < 5 → ∃ d, lightW d ∧ ([.str "slide", .str "part", .str "shift", .str "turn", .str "over"] : List V)[n]? = some (.str (wdS d)) := by
  intro n h
  match n, h with
  | 0, _ => exact ⟨.slide, .inl rfl, rfl⟩
  | 1, _ => exact ⟨.part, .inr (.inl rfl), rfl⟩
  | 2, _ => exact ⟨.shift, .inr (.inr (.inl rfl)), rfl⟩
  | 3, _ => exact ⟨.turn, .inr (.inr (.inr (.inl rfl))), rfl⟩
  | 4, _ => exact ⟨.over, .inr (.inr (.inr (.inr rfl))), rfl⟩
theorem wdS_meet (d : Wd) : decide (V.str (wdS d) = V.str "meet") = decide (d = .meet) := by cases d <;> decide +kernel
theorem heavyL_at : ∀ n, n < 5 → ∃ d : Wd, (d = .mirror ∨ d = .foot ∨ d = .meet ∨ d = .second ∨ d = .centre) ∧ ([.str "mirror", .str "foot", .str "meet", .str "second", .str "centre"] : List V)[n]? = some (.str (wdS d)) := by
  intro n h
  match n, h with
  | 0, _ => exact ⟨.mirror, .inl rfl, rfl⟩
  | 1, _ => exact ⟨.foot, .inr (.inl rfl), rfl⟩
  | 2, _ => exact ⟨.meet, .inr (.inr (.inl rfl)), rfl⟩
  | 3, _ => exact ⟨.second, .inr (.inr (.inr (.inl rfl))), rfl⟩
  | 4, _ => exact ⟨.centre, .inr (.inr (.inr (.inr rfl))), rfl⟩
theorem map_erase {α β : Type} (f : α → β) : ∀ (l : List α) (n : Nat), (l.map f).eraseIdx n = (l.eraseIdx n).map f
  | [], n => by cases n <;> rfl
  | a :: l, 0 => rfl
  | a :: l, n + 1 => congrArg (f a :: ·) (map_erase f l n)
theorem perm_erase {α : Type} {s : α} : ∀ {R : List α} {k : Nat}, R[k]? = some s → (s :: R.eraseIdx k).Perm R
  | [], k, h => by cases k <;> cases h
  | r :: R, 0, h => by cases h; exact List.Perm.refl _
  | r :: R, k + 1, h => (List.Perm.swap r s _).trans ((perm_erase (R := R) (k := k) h).cons r)
theorem wdS_slide (d : Wd) : decide (V.str (wdS d) = V.str "slide") = decide (d = .slide) := by cases d <;> decide +kernel
theorem bkWt {H : Hp} {B : Bk} {c : Cst} {ws fs : List (Str × Nat)} {x : Str} {k : Nat} (bk : BookAt H B c ws fs) (h : wtOf ws x = some k) : DGet H B.w (.str x) (some (.int (k : Nat))) := by
  have g := DGet.k (k := eS x) bk.w
  rw [show valV (wtK ws) (eS x) = some (.int (k : Nat)) by rw [show eS x = (Sum.inr x : Key) from rfl, val_wt, h]; rfl] at g
  exact g
theorem sum_nat : ∀ ks : List Nat, (ks.map fun k => ((k : Nat) : Int)).sum = ((ks.sum : Nat) : Int)
  | [] => rfl
  | k :: ks => by rw [List.map_cons, List.sum_cons, List.sum_cons, sum_nat ks]; simp
theorem pair_of {ws : List (Str × Nat)} : ∀ {xs : List Str}, (∀ x ∈ xs, ∃ k, wtOf ws x = some k ∧ k < 9) → ∃ ks, Paired (fun x k => wtOf ws x = some k ∧ k < 9) xs ks
  | [], _ => ⟨[], .nil⟩
  | x :: xs, h => by
    obtain ⟨k, hk⟩ := h x List.mem_cons_self
    obtain ⟨ks, h2⟩ := pair_of (xs := xs) fun y m => h y (List.mem_cons_of_mem _ m)
    exact ⟨k :: ks, .cons hk h2⟩
/-! ### the texts -/
section
variable {P : Program} {w : World} {K : PySem.W.Frag} {mg : Str → Option Value} {base : Heap} {fD fE fL : Addr} {dD dE dL : FuncData}
structure LStepTxt (mg : Str → Option Value) : Prop where
  len : mg "len" = none
  list : mg "list" = none
  tuple : mg "tuple" = none
  range : mg "range" = none
  sum : mg "sum" = none
theorem scLight : FnScope ["state", "book", "name", "near", "word", "row", "weight", "point", "k"] ["state", "book", "name"] (defScope sLight) := ⟨rfl, rfl, rfl, by decide +kernel, rfl, by decide +kernel, by decide +kernel⟩
theorem scStep : FnScope ["state", "book", "name", "pick", "left", "a", "b", "c", "word", "k"] ["state", "book", "name"] (defScope sStep) := ⟨rfl, rfl, rfl, by decide +kernel, rfl, by decide +kernel, by decide +kernel⟩
theorem ok_light {f : Addr} {fd : FuncData} (F : Fun K "_law_light" "_law_light" sLight f fd) (T : LStepTxt mg) (UD : CallT P w K mg base CX0 1 "_law_draw" ["state", "many"] spDraw fD dD) (UE : CallT P w K mg base CX0 2 "_law_elders" ["word"] spLEl fE dE) : FnOk P w K mg base CX0 3 f fd ["state", "book", "name"] (spLStep true) := by
  refine F.ok scLight (fun vs H Q E h => ?_) (fun cdv Ar outer s H vs Q E hr h => ?_)
  · obtain ⟨p, l, B, c, ws, fs, nm, rfl, _⟩ := h
    rfl
  · obtain ⟨p, l, B, c, ws, fs, nm, rfl, st, bk, bp, inv, hn, new, ne, go⟩ := h
    have ne := ne rfl
    refine ⟨_, (pss_cons (ps_set (i := 3) scLight.nd rfl (Or.inr rfl) (pe_lc (own := [("point", 7)]) (g := (gName 7)) (tt := (tTest (tOp (rI0 fun i j => .bl (decide (i < j))) (tDGet (tDGet (tVar 1) (tC (.str "weight"))) (tVar 7)) (tC (.int 9))))) (te := (tVar 7)) rfl scLight.nd (pi_list (pe_dget (hu1 hr) (pv 1) pe_str (fun _ _ => rfl))) (blkOk_by (own := [("point", 7)]) (N := ["state", "book", "name", "near", "word", "row", "weight", "point", "k"]) (sc := defScope sLight) (by decide +kernel)) (fun _ _ _ _ _ => (pg_name (i := 7) scLight.nd rfl (Or.inl rfl))) (fun _ _ _ _ _ => (pts_one (pt_cmpR op_lt (pe_dget (hu1 hr) (pe_dget (hu1 hr) (pv 1) pe_str (fun _ _ => rfl)) (pv 7) (fun _ _ => rfl)) pe_int (nomark _)))) (fun _ _ _ _ _ => (pv 7))))
      (pss_cons (ps_set (i := 4) scLight.nd rfl (Or.inl rfl) (pe_ix ix_tup (pe_tup (pa_cons pe_str (pa_cons pe_str (pa_cons pe_str (pa_cons pe_str (pa_cons pe_str pa_nil)))))) (pe_call UD.ok (hr.mono (by decide)) rfl UD.g UD.k UD.b .nil pass0 (pa_cons (pv 0) (pa_cons pe_int pa_nil))) (fun _ _ => rfl)))
      (C8.pss_cut (ps_if (PW.pt (pw_and (pt_cmpR op_eq (pv 4) pe_str (nomark _)) (pw_and1 (pt_cmpR op_gt (pe_dget (hu1 hr) (pv 1) pe_str (fun _ _ => rfl)) pe_int (nomark _))))) (pss_one (ps_set (i := 4) scLight.nd rfl (Or.inl rfl) pe_str)) pss_nil) (pss_cons (ps_setLc (i := 5) (own := [("k", 8)]) (g := (gName 8)) (tt := tYes) (te := (tOp (rIxL K) (tVar 3) (tCall spDraw [] E0 (tCons (tVar 0) (tCons (tCB (rLenQ K) (tCons (tVar 3) tNil)) tNil))))) rfl scLight.nd rfl rfl (sw_true rfl rfl rfl (by decide +kernel)) (pi_range1 (by rfl) T.range (pa_cons (pe_call UE.ok (hr.mono (by decide)) rfl UE.g UE.k UE.b .nil pass0 (pa_cons (pv 4) pa_nil)) pa_nil)) (blkOk_by (own := [("k", 8)]) (N := ["state", "book", "name", "near", "word", "row", "weight", "point", "k"]) (sc := defScope sLight) (by decide +kernel)) (fun _ _ _ _ _ => (pg_name (i := 8) scLight.nd rfl (Or.inl rfl))) (fun _ _ _ _ _ => pts_nil) (fun _ _ _ _ _ => (pe_ix ix_list (pv 3) (pe_call UD.ok (hr.mono (by decide)) rfl UD.g UD.k UD.b .nil pass0 (pa_cons (pv 0) (pa_cons (pe_callB call_lenQ (by rfl) T.len PySem.boot_len (pa_cons (pv 3) pa_nil)) pa_nil))) (fun _ _ => rfl))))
      (pss_cons (ps_set (i := 6) scLight.nd rfl (Or.inl rfl) (pe_op op_add pe_int (pe_callB (cr_sum rfl) (by rfl) T.sum (by decide +kernel) (pa_cons (pe_lc (own := [("point", 7)]) (g := (gName 7)) (tt := tYes) (te := (tDGet (tDGet (tVar 1) (tC (.str "weight"))) (tVar 7))) rfl scLight.nd (pi_list (pv 5)) (blkOk_by (own := [("point", 7)]) (N := ["state", "book", "name", "near", "word", "row", "weight", "point", "k"]) (sc := defScope sLight) (by decide +kernel)) (fun _ _ _ _ _ => (pg_name (i := 7) scLight.nd rfl (Or.inl rfl))) (fun _ _ _ _ _ => pts_nil) (fun _ _ _ _ _ => (pe_dget (hu1 hr) (pe_dget (hu1 hr) (pv 1) pe_str (fun _ _ => rfl)) (pv 7) (fun _ _ => rfl)))) pa_nil))))
      (pss_cons (ps_if (pt_cmpR op_eq (pv 4) pe_str (nomark _)) (pss_one (ps_ret (pe_tup (pa_cons (pe_op op_catA (pe_op op_catA (pe_tup (pa_cons (pv 4) (pa_cons (pv 2) pa_nil))) (pe_tupleOf (by rfl) T.tuple (pv 5))) (pe_tup (pa_cons (pe_op op_sub (pe_call UD.ok (hr.mono (by decide)) rfl UD.g UD.k UD.b .nil pass0 (pa_cons (pv 0) (pa_cons pe_int pa_nil))) pe_int) (pa_cons (pe_op op_add pe_int (pe_call UD.ok (hr.mono (by decide)) rfl UD.g UD.k UD.b .nil pass0 (pa_cons (pv 0) (pa_cons pe_int pa_nil)))) pa_nil)))) (pa_cons (pe_op op_add (pv 6) pe_int) pa_nil))))) pss_nil)
      (pss_one (ps_ret (pe_tup (pa_cons (pe_op op_catA (pe_tup (pa_cons (pv 4) (pa_cons (pv 2) pa_nil))) (pe_tupleOf (by rfl) T.tuple (pv 5))) (pa_cons (pv 6) pa_nil))))))))))), ?_⟩
    have nB := bp
    obtain ⟨NL, hNL⟩ : ∃ NL, NL = c.names.filter (nearB ws) := ⟨_, rfl⟩
    have nl0 : NL ≠ [] := by rw [hNL]; exact near_ne inv ne
    have nl12 : NL.length ≤ 12 := by
      rw [hNL]
      have h1 := List.length_filter_le (nearB ws) c.names
      have h2 : c.names.length ≤ 12 := by rw [inv.ck.nm, List.length_map]; exact inv.ck.len
      omega
    have nlb : ∀ x ∈ NL, nearB ws x = true := fun x m => by rw [hNL] at m; exact (List.mem_filter.mp m).2
    refine ⟨_, rfl, B.b, _, rfl, bkT bk.b, B.t, rfl, ⟨_, SqL.of bk.t⟩, fun D nD => ?_⟩
    refine lc_it (walk_list (K := K) (a := B.t) (xs := c.names.map V.str)) (fun i G => Same H G ∧ G D = some (.lst (((c.names.take i).filter (nearB ws)).map V.str))) ⟨same_new nD, upd_same⟩ (fun i G _ ⟨sG, _⟩ => SqL.of (sG _ _ bk.t)) (fun i v F0 F hi ⟨sF, hD⟩ ⟨e, hv⟩ => ?_) (fun G ⟨sG, hD⟩ => ?_)
    · subst e
      have hv : (c.names.map V.str)[i]? = some v := hv
      rw [List.getElem?_map] at hv
      obtain ⟨x, hx, rfl⟩ := Option.map_eq_some_iff.mp hv
      have tk : c.names.take (i + 1) = c.names.take i ++ [x] := K2P.take_snoc hx
      obtain ⟨k, hk⟩ := wtOf_some (ws := ws) (x := x) (by rw [inv.nm]; exact List.mem_of_getElem? hx)
      refine ⟨rfl, _, rfl, B.b, _, rfl, bkW (sF _ _ bk.b), _, rfl, B.w, _, rfl, bkWt (bk.same sF) hk, _, _, rfl, rfl, _, rfl, ?_⟩
      have fx : ([x].filter (nearB ws)) = if k < 9 then [x] else [] := by
        have e1 : nearB ws x = decide (k < 9) := by unfold nearB; rw [hk]
        rw [List.filter_cons, e1]
        by_cases h9 : k < 9
        · rw [if_pos h9, decide_eq_true h9]; rfl
        · rw [if_neg h9, decide_eq_false h9]; rfl
      by_cases h9 : k < 9
      · rw [if_pos h9] at fx
        refine ifY (decide_eq_true (by omega)) ⟨_, rfl, _, hD, ?_, fun b o e => (upd_ne (ne_of_none e nD)).trans (sF b o e), ?_⟩
        · rw [List.length_map, sizeLine_eq]
          have h1 := List.length_filter_le (nearB ws) (c.names.take i)
          have h2 : c.names.length ≤ 12 := by rw [inv.ck.nm, List.length_map]; exact inv.ck.len
          rw [List.length_take] at h1
          omega
        · rw [upd_same, tk, List.filter_append, fx, List.map_append]
          rfl
      · rw [if_neg h9] at fx
        refine ifN (decide_eq_false (by omega)) ⟨sF, ?_⟩
        rw [hD, tk, List.filter_append, fx, List.append_nil]
    · rw [List.length_map, List.take_length, ← hNL] at hD
      have stG := st.same sG
      have b0 : Bt p H G := Bt.same sG
      have Dp := (st.ne nD).1
      generalize hk : (fun x => nearB ws x) = nf at *
      clear hNL
      refine ⟨by show 5 ≤ sizeLine; decide, fun t nt => ⟨_, rfl, p, l, 5, rfl, stG.same (same_new nt), by decide, by decide, fun z G1 z0 z1 st1 b1 => ?_⟩⟩
      have tp := (stG.ne nt).1
      have ht : G1 t = some (.tup [.str "slide", .str "part", .str "shift", .str "turn", .str "over"]) := b1 _ _ tp upd_same
      have b01 : Bt p H G1 := (b0.set (none_up sG nt)).trans b1
      have hD1 : G1 D = some (.lst (NL.map V.str)) := b1 _ _ Dp (same_new nt _ _ hD)
      obtain ⟨n, rfl⟩ : ∃ n : Nat, z = n := ⟨z.toNat, by omega⟩
      obtain ⟨d, hd, hdn⟩ := lightL_at n (by omega)
      refine ⟨t, _, _, _, rfl, rfl, SqT.of ht, atI_nat hdn, ?_⟩
      clear ht b1
      refine ⟨fun σ F => ∃ d, lightW d ∧ (d = .slide → c.unk.length ≤ 7) ∧ σ = [some (.ref p), some (.ref B.b), some (.str nm), some (.ref D), some (.str (wdS d)), none, none, none, none] ∧ F = G1, ?_, ?_⟩
      · have bk1 := bk.bt b01 st bp
        refine ⟨_, rfl, rfl, _, rfl, ?_⟩
        rw [wdS_slide]
        by_cases hs : d = .slide
        · subst hs
          refine ifY rfl ⟨_, rfl, B.b, _, rfl, bkM bk1.b, _, _, rfl, rfl, _, rfl, ?_⟩
          by_cases h7 : c.unk.length ≤ 7
          · exact ifN (decide_eq_false (by omega)) ⟨_, hd, fun _ => h7, rfl, rfl⟩
          · exact ifY (decide_eq_true (by omega)) ⟨.over, .inr (.inr (.inr (.inr rfl))), fun z => (nomatch z), rfl, rfl⟩
        · rw [decide_eq_false hs]
          exact ifN rfl ⟨_, hd, fun z => absurd z hs, rfl, rfl⟩
      · clear hd hdn d
        rintro σ F ⟨d, hd, h7, rfl, rfl⟩
        have a4 := ar4 d
        have a2 : 2 ≤ arP d := by rcases hd with rfl | rfl | rfl | rfl | rfl <;> decide
        refine ⟨_, rfl, d, rfl, fun G2 s2 => ⟨_, rfl, by omega, by omega, fun R nR => ?_⟩⟩
        rw [Int.toNat_natCast]
        have st2 := st1.same s2
        have b02 := b01.trans (Bt.same s2)
        have hD2 := s2 _ _ hD1
        have Rp := st2.ne nR
        have RD : R ≠ D := fun z => by rw [z, hD2] at nR; cases nR
        have nRH := bt_none b02 st2 nR
        refine lc_it (walk_range (lo := 0) (n := arP d)) (fun i G => ∃ xs : List Str, StL G p l ∧ Bt p H G ∧ G D = some (.lst (NL.map V.str)) ∧ G R = some (.lst (xs.map V.str)) ∧ xs.length = i ∧ ∀ x ∈ xs, x ∈ NL)
          ⟨[], st2.up nR, b02.set nRH, (upd_ne (Ne.symm RD)).trans hD2, upd_same, rfl, fun _ h => (nomatch h)⟩ (fun _ _ _ _ => trivial) (fun i v F0 F hi ⟨xs, stF, bF, hDF, hRF, lx, hx⟩ ⟨e, ev⟩ => ?_) (fun G3 ⟨xs, st3, b3, hD3, hR3, lx, hx⟩ => ?_)
        · subst e ev
          have ln : 0 < NL.length := List.length_pos_iff.mpr nl0
          refine ⟨rfl, _, rfl, _, rfl, _, rfl, D, _, rfl, .inl (SqL.of hDF), p, l, _, rfl, stF, by rw [List.length_map]; omega, by rw [List.length_map]; omega, fun z F2 z0 z1 st4 b4 => ?_⟩
          rw [List.length_map] at z1
          obtain ⟨n, rfl⟩ : ∃ n : Nat, z = n := ⟨z.toNat, by omega⟩
          have ln2 : n < NL.length := by omega
          have hDF2 := b4 _ _ Dp hDF
          have hRF2 := b4 _ _ Rp.1 hRF
          refine ⟨D, _, _, _, rfl, rfl, SqL.of hDF2, atI_nat (by rw [List.getElem?_map, List.getElem?_eq_getElem ln2]; rfl), ?_⟩
          refine ⟨_, hRF2, by rw [List.length_map, sizeLine_eq]; omega, xs ++ [NL[n]], st4.set Rp.1 Rp.2, (bF.trans b4).set nRH, (upd_ne (Ne.symm RD)).trans hDF2, ?_, by rw [List.length_append, lx]; rfl, fun x m => ?_⟩
          · rw [upd_same, List.map_append]
            rfl
          · rcases List.mem_append.mp m with m | m
            · exact hx x m
            · rw [List.mem_singleton.mp m]
              exact List.getElem_mem ln2
        · obtain ⟨ks, hks⟩ := pair_of (ws := ws) (xs := xs) fun x m => near_of (nlb x (hx x m))
          have lk := Paired.length hks
          refine ⟨_, rfl, R, rfl, ⟨_, SqL.of hR3⟩, fun W nW => ?_⟩
          have Wp := st3.ne nW
          have bk3 := bk.bt b3 st bp
          refine lc_it (walk_list (K := K) (a := R) (xs := xs.map V.str)) (fun i G => Same G3 G ∧ G W = some (.lst (((ks.map fun k => ((k : Nat) : Int)).take i).map V.int))) ⟨same_new nW, upd_same⟩ (fun i G _ ⟨sG, _⟩ => SqL.of (sG _ _ hR3)) (fun i v F0 F hi ⟨sF, hW⟩ ⟨e, hv⟩ => ?_) (fun G4 ⟨s4, hW4⟩ => ?_)
          · subst e
            have hv : (xs.map V.str)[i]? = some v := hv
            rw [List.getElem?_map] at hv
            obtain ⟨x, hxi, rfl⟩ := Option.map_eq_some_iff.mp hv
            have lxi := (List.getElem?_eq_some_iff.mp hxi).1
            have hki := List.getElem?_eq_getElem (show i < ks.length by omega)
            have wk := (pair_get hks hxi hki).1
            refine ⟨rfl, _, rfl, B.b, _, rfl, bkW (sF _ _ bk3.b), _, rfl, B.w, _, rfl, bkWt (bk3.same sF) wk, ?_⟩
            refine ⟨_, hW, by rw [List.length_map, List.length_take, List.length_map, sizeLine_eq]; omega, fun b o e => (upd_ne (ne_of_none e nW)).trans (sF b o e), ?_⟩
            have tk : (ks.map fun k => ((k : Nat) : Int)).take (i + 1) = (ks.map fun k => ((k : Nat) : Int)).take i ++ [((ks[i]'(by omega) : Nat) : Int)] := K2P.take_snoc (by rw [List.getElem?_map, hki]; rfl)
            rw [upd_same, tk, List.map_append]
            rfl
          · have e1 : (xs.map V.str).length = (ks.map fun k => ((k : Nat) : Int)).length := by rw [List.length_map, List.length_map, lk]
            rw [e1, List.take_length] at hW4
            refine ⟨W, _, rfl, SqL.of hW4, _, _, rfl, rfl, ?_⟩
            rw [sum_nat]
            have st4 := st3.same s4
            have b4 := b3.trans (Bt.same s4)
            have hR4 := s4 _ _ hR3
            clear hW4 e1 bk3 hR3 hD3 hD2 hD1
            refine ⟨_, rfl, rfl, _, rfl, ?_⟩
            rw [wdS_part]
            by_cases hp : d = .part
            · subst hp
              refine ifY rfl ?_
              refine ⟨_, rfl, _, rfl, by show 2 ≤ sizeLine; decide, fun t1 n1 => ⟨_, rfl, .inl ⟨R, _, rfl, SqL.of (same_new n1 _ _ hR4), fun t2 n2 => ?_⟩⟩⟩
              have h1 := same_new (o := .tup (xs.map V.str)) n2 _ _ (show upd G4 t1 (.tup [.str (wdS .part), .str nm]) t1 = some (.tup [.str (wdS .part), .str nm]) from upd_same)
              have h2 : upd (upd G4 t1 (.tup [.str (wdS .part), .str nm])) t2 (.tup (xs.map V.str)) t2 = some (.tup (xs.map V.str)) := upd_same
              have s5 := (same_new (o := .tup [.str (wdS .part), .str nm]) n1).trans (same_new (o := .tup (xs.map V.str)) n2)
              generalize upd (upd G4 t1 (.tup [.str (wdS .part), .str nm])) t2 (.tup (xs.map V.str)) = G5 at h1 h2 s5 ⊢
              refine ⟨t1, t2, _, _, rfl, rfl, SqT.of h1, SqT.of h2, by show 2 + (xs.map V.str).length ≤ sizeLine; rw [List.length_map, lx, sizeLine_eq]; omega, fun e => (nomatch e), fun _ em => absurd (congrArg List.length em) (by rw [List.length_map, lx]; exact fun z => by have z : arP .part = 0 := z; omega), fun _ _ t3 n3 => ?_⟩
              have s6 := s5.trans (same_new (o := .tup ([.str (wdS .part), .str nm] ++ xs.map V.str)) n3)
              have h3 : upd G5 t3 (.tup ([.str (wdS .part), .str nm] ++ xs.map V.str)) t3 = some (.tup ([.str (wdS .part), .str nm] ++ xs.map V.str)) := upd_same
              generalize upd G5 t3 (.tup ([.str (wdS .part), .str nm] ++ xs.map V.str)) = G6 at s6 h3 ⊢
              have st6 := st4.same s6
              have b6 := b4.trans (Bt.same s6)
              refine ⟨_, rfl, p, l, 201, rfl, st6, by decide, by decide, fun z1 G7 z10 z11 st7 b7 => ⟨_, _, rfl, rfl, _, rfl, p, l, 100, rfl, st7, by decide, by decide, fun z2 G8 z20 z21 st8 b8 => ⟨_, _, rfl, rfl, by show 2 ≤ sizeLine; decide, fun t4 n4 => ?_⟩⟩⟩
              have t3p := (st6.ne_of h3)
              have h38 := b8 _ _ t3p (b7 _ _ t3p h3)
              have h39 := same_new (o := .tup [.int (z1 - 100), .int (1 + z2)]) n4 _ _ h38
              have h4 : upd G8 t4 (.tup [.int (z1 - 100), .int (1 + z2)]) t4 = some (.tup [.int (z1 - 100), .int (1 + z2)]) := upd_same
              have st9 := st8.same (same_new (o := .tup [.int (z1 - 100), .int (1 + z2)]) n4)
              have b9 := (b6.trans (b7.trans b8)).trans (Bt.same (same_new (o := .tup [.int (z1 - 100), .int (1 + z2)]) n4))
              generalize upd G8 t4 (.tup [.int (z1 - 100), .int (1 + z2)]) = G9 at h39 h4 st9 b9 ⊢
              refine ⟨t3, t4, _, _, rfl, rfl, SqT.of h39, SqT.of h4, by show (([V.str (wdS .part), V.str nm] : List V) ++ xs.map V.str).length + 2 ≤ sizeLine; rw [List.length_append, List.length_map, lx, sizeLine_eq]; show 2 + 2 + 2 ≤ _; decide, fun e => (nomatch e), fun _ e => (nomatch e), fun _ _ t5 n5 => ?_⟩
              refine ⟨_, rfl, _, _, rfl, rfl, by show 2 ≤ sizeLine; decide, fun a na => ?_⟩
              have ok := light_ok (nm := nm) (nu := [z1 - 100, 1 + z2]) inv hn new hd h7 hks lx rfl (fun i k e => by
                match i, e with
                | 0, e => cases e; show (-100 : Int) ≤ _ ∧ _; omega
                | 1, e => cases e; show (1 : Int) ≤ _ ∧ _; omega) ne
              have s10 := (same_new (o := .tup (([.str (wdS .part), .str nm] ++ xs.map V.str) ++ [.int (z1 - 100), .int (1 + z2)])) n5).trans (same_new (o := .tup [.ref t5, .int (1 + ((ks.sum : Nat) : Int) + 2)]) na)
              refine go _ _ a t5 _ (st9.same s10) (b9.trans (Bt.same s10)) ok ?_ (same_new na _ _ ?_)
              · rw [upd_same]
                show some (HO.tup [V.ref t5, V.int (1 + ((ks.sum : Nat) : Int) + 2)]) = _
                have e1 : (1 + ((ks.sum : Nat) : Int) + 2) = ((1 + ks.sum + (if Wd.part = .part then 2 else 0) : Nat) : Int) := by rw [if_pos rfl]; omega
                rw [e1]
              · rw [upd_same]
                show some (HO.tup _) = some (HO.tup (V.str (wdS .part) :: V.str nm :: (xs.map V.str ++ [z1 - 100, 1 + z2].map V.int)))
                rfl
            · rw [decide_eq_false hp]
              refine ifN rfl ?_
              dsimp only [tNext]
              refine ⟨_, rfl, _, rfl, by show 2 ≤ sizeLine; decide, fun t1 n1 => ⟨_, rfl, .inl ⟨R, _, rfl, SqL.of (same_new n1 _ _ hR4), fun t2 n2 => ?_⟩⟩⟩
              have h1 := same_new (o := .tup (xs.map V.str)) n2 _ _ (show upd G4 t1 (.tup [.str (wdS d), .str nm]) t1 = some (.tup [.str (wdS d), .str nm]) from upd_same)
              have h2 : upd (upd G4 t1 (.tup [.str (wdS d), .str nm])) t2 (.tup (xs.map V.str)) t2 = some (.tup (xs.map V.str)) := upd_same
              have s5 := (same_new (o := .tup [.str (wdS d), .str nm]) n1).trans (same_new (o := .tup (xs.map V.str)) n2)
              generalize upd (upd G4 t1 (.tup [.str (wdS d), .str nm])) t2 (.tup (xs.map V.str)) = G5 at h1 h2 s5 ⊢
              refine ⟨t1, t2, _, _, rfl, rfl, SqT.of h1, SqT.of h2, by show 2 + (xs.map V.str).length ≤ sizeLine; rw [List.length_map, lx, sizeLine_eq]; omega, fun e => (nomatch e), fun _ em => absurd (congrArg List.length em) (by rw [List.length_map, lx]; exact fun z => by have z : arP d = 0 := z; omega), fun _ _ t3 n3 => ?_⟩
              have s6 := s5.trans (same_new (o := .tup ([.str (wdS d), .str nm] ++ xs.map V.str)) n3)
              have h3 : upd G5 t3 (.tup ([.str (wdS d), .str nm] ++ xs.map V.str)) t3 = some (.tup ([.str (wdS d), .str nm] ++ xs.map V.str)) := upd_same
              generalize upd G5 t3 (.tup ([.str (wdS d), .str nm] ++ xs.map V.str)) = G6 at s6 h3 ⊢
              have st6 := st4.same s6
              have b6 := b4.trans (Bt.same s6)
              refine ⟨_, rfl, by show 2 ≤ sizeLine; decide, fun a na => ?_⟩
              have an := arN_part d
              rw [if_neg hp] at an
              have ok := light_ok (nm := nm) (nu := []) inv hn new hd h7 hks lx (by rw [an]; rfl) (fun i k e => by cases e) ne
              have s10 := same_new (o := .tup [.ref t3, .int (1 + ((ks.sum : Nat) : Int))]) na
              refine go _ _ a t3 _ (st6.same s10) (b6.trans (Bt.same s10)) ok ?_ (same_new na _ _ ?_)
              · rw [upd_same]
                show some (HO.tup [V.ref t3, V.int (1 + ((ks.sum : Nat) : Int))]) = _
                have e1 : (1 + ((ks.sum : Nat) : Int)) = ((1 + ks.sum + (if d = .part then 2 else 0) : Nat) : Int) := by rw [if_neg hp]; omega
                rw [e1]
              · rw [h3]
                show some (HO.tup _) = some (HO.tup (V.str (wdS d) :: V.str nm :: (xs.map V.str ++ [])))
                rw [List.append_nil]
                rfl
theorem ok_lstep {f : Addr} {fd : FuncData} (F : Fun K "_law_step" "_law_step" sStep f fd) (T : LStepTxt mg) (UD : CallT P w K mg base CX0 1 "_law_draw" ["state", "many"] spDraw fD dD) (UL : CallT P w K mg base CX0 3 "_law_light" ["state", "book", "name"] (spLStep true) fL dL) : FnOk P w K mg base CX0 4 f fd ["state", "book", "name"] (spLStep false) := by
  refine F.ok scStep (fun vs H Q E h => ?_) (fun cdv Ar outer s H vs Q E hr h => ?_)
  · obtain ⟨p, l, B, c, ws, fs, nm, rfl, _⟩ := h
    rfl
  · obtain ⟨p, l, B, c, ws, fs, nm, rfl, st, bk, bp, inv, hn, new, _, go⟩ := h
    refine ⟨_, (pss_cons (ps_set (i := 3) scStep.nd rfl (Or.inl rfl) (pe_call UD.ok (hr.mono (by decide)) rfl UD.g UD.k UD.b .nil pass0 (pa_cons (pv 0) (pa_cons pe_int pa_nil))))
      (C8.pss_cut (ps_if (PW.pt (pw_or (pt_cmpR op_eq (pe_callB call_len_seq (by rfl) T.len PySem.boot_len (pa_cons (pe_dget (hu1 hr) (pv 1) pe_str (fun _ _ => rfl)) pa_nil)) pe_int (nomark _)) (pw_or1 (PW.pt (pw_and (pt_cmpR op_lt (pv 3) pe_int (nomark _)) (pw_and1 (pt_cmpR op_lt (pe_dget (hu1 hr) (pv 1) pe_str (fun _ _ => rfl)) pe_int (nomark _)))))))) (pss_one (ps_ret (pe_tup (pa_cons (pe_tup (pa_cons pe_str (pa_cons (pv 2) pa_nil))) (pa_cons pe_int pa_nil))))) pss_nil) (pss_cons (ps_if (PW.pt (pw_and (pt_cmpR op_eq (pv 3) pe_int (nomark _)) (pw_and1 (pt_cmpR op_gt (pe_callB call_len_seq (by rfl) T.len PySem.boot_len (pa_cons (pe_dget (hu1 hr) (pv 1) pe_str (fun _ _ => rfl)) pa_nil)) pe_int (nomark _))))) (pss_cons (ps_set (i := 4) scStep.nd rfl (Or.inr rfl) (pe_callTy call_list_of (by rfl) T.list (by decide +kernel) (pa_cons (pe_dget (hu1 hr) (pv 1) pe_str (fun _ _ => rfl)) pa_nil)))
      (pss_cons (ps_asg (pe_lc (own := [("k", 9)]) (g := (gName 9)) (tt := tYes) (te := (tPop K 4)) rfl scStep.nd (pi_range1 (by rfl) T.range (pa_cons pe_int pa_nil)) (blkOk_by (own := [("k", 9)]) (N := ["state", "book", "name", "pick", "left", "a", "b", "c", "word", "k"]) (sc := defScope sStep) (by decide +kernel)) (fun _ _ _ _ _ => (pg_name (i := 9) scStep.nd rfl (Or.inl rfl))) (fun _ _ _ _ _ => pts_nil) (fun _ _ _ _ _ => (pe_bm PySem.F.plainAttrs_list PySem.F.slot_list_pop PySem.F.type_list_pop mt_popAt (pv 4) (pa_cons (pe_call UD.ok (hr.mono (by decide)) rfl UD.g UD.k UD.b .nil pass0 (pa_cons (pv 0) (pa_cons (pe_callB call_lenQ (by rfl) T.len PySem.boot_len (pa_cons (pv 4) pa_nil)) pa_nil))) pa_nil)))) (pg_lst rfl (pgs_cons (pg_name (i := 5) scStep.nd rfl (Or.inl rfl)) (pgs_cons (pg_name (i := 6) scStep.nd rfl (Or.inl rfl)) (pgs_cons (pg_name (i := 7) scStep.nd rfl (Or.inl rfl)) pgs_nil)))))
      (pss_cons (ps_set (i := 8) scStep.nd rfl (Or.inl rfl) (pe_ix ix_tup (pe_tup (pa_cons pe_str (pa_cons pe_str (pa_cons pe_str (pa_cons pe_str (pa_cons pe_str pa_nil)))))) (pe_call UD.ok (hr.mono (by decide)) rfl UD.g UD.k UD.b .nil pass0 (pa_cons (pv 0) (pa_cons pe_int pa_nil))) (fun _ _ => rfl)))
      (pss_cons (ps_if (pt_cmpR op_eq (pv 8) pe_str (nomark _)) (pss_one (ps_ret (pe_tup (pa_cons (pe_tup (pa_cons (pv 8) (pa_cons (pv 2) (pa_cons (pv 5) (pa_cons (pv 6) (pa_cons (pv 7) (pa_cons (pv 5) pa_nil))))))) (pa_cons pe_int pa_nil))))) pss_nil)
      (pss_one (ps_ret (pe_tup (pa_cons (pe_tup (pa_cons (pv 8) (pa_cons (pv 2) (pa_cons (pv 5) (pa_cons (pv 6) (pa_cons (pv 7) pa_nil)))))) (pa_cons pe_int pa_nil))))))))) pss_nil)
      (pss_one (ps_ret (pe_call UL.ok (hr.mono (by decide)) rfl UL.g UL.k UL.b .nil pass0 (pa_cons (pv 0) (pa_cons (pv 1) (pa_cons (pv 2) pa_nil))))))))), ?_⟩
    refine ⟨_, rfl, p, l, 8, rfl, st, by decide, by decide, fun z G1 z0 z1 st1 b1 => ?_⟩
    have bk1 := bk.bt b1 st bp
    have free : c.unk.length + 2 ≤ 8 → ∀ (t a : Addr), G1 t = none → upd G1 t (.tup [.str "free", .str nm]) a = none → Q (.ref a) (upd (upd G1 t (.tup [.str "free", .str nm])) a (.tup [.ref t, .int 0])) := fun u t a nt na => by
      have s2 := (same_new (o := .tup [.str "free", .str nm]) nt).trans (same_new (o := .tup [.ref t, .int 0]) na)
      exact go _ 0 a t _ (st1.same s2) (b1.trans (Bt.same s2)) (free_ok inv hn new u) upd_same (same_new na _ _ upd_same)
    refine ⟨fun σ F => σ = [some (.ref p), some (.ref B.b), some (.str nm), some (.int z), none, none, none, none, none, none] ∧ F = G1 ∧ c.names ≠ [], ?_, ?_⟩
    · refine ⟨_, rfl, B.b, _, rfl, bkT bk1.b, B.t, _, rfl, .inl (SqL.of bk1.t), rfl, _, rfl, ?_⟩
      by_cases h0 : c.names = []
      · refine ifY (decide_eq_true (by rw [h0]; rfl)) ⟨_, rfl, by show 2 ≤ sizeLine; decide, fun t nt => ⟨by show 2 ≤ sizeLine; decide, fun a na => free ?_ t a nt na⟩⟩
        have e : c.steps = [] := List.map_eq_nil_iff.mp (by rw [← inv.ck.nm]; exact h0)
        rw [inv.ck.un, e]
        decide
      refine ifN (decide_eq_false fun z => h0 ?_) ?_
      · have := V.int.inj z
        rw [List.length_map] at this
        exact List.length_eq_zero_iff.mp (by omega)
      refine ⟨_, rfl, _, _, rfl, rfl, _, rfl, ?_⟩
      refine ite2 (fun h3 => ⟨_, rfl, B.b, _, rfl, bkM bk1.b, _, _, rfl, rfl, _, rfl, ite2 (fun h7 => ?_) (fun h7 => ?_)⟩) (fun h3 => ifN rfl ⟨rfl, rfl, h0⟩)
      · exact ⟨_, rfl, by show 2 ≤ sizeLine; decide, fun t nt => ⟨by show 2 ≤ sizeLine; decide, fun a na => free (by have := of_decide_eq_true h7; omega) t a nt na⟩⟩
      · exact ⟨rfl, rfl, h0⟩
    rintro σ F ⟨rfl, rfl, h0⟩
    refine ⟨_, rfl, rfl, _, rfl, ?_⟩
    have light : ∀ (G : Hp) (R : VK), G = F → (∀ v G2, Q v G2 → R v G2) → spLStep true [.ref p, .ref B.b, .str nm] G R E0 := fun G R e hR => by
      subst e
      exact ⟨p, l, B, c, ws, fs, nm, rfl, st1, bk1, bp, inv, hn, new, fun _ => h0, fun s wt a t G2 st2 b2 ok ha ht => hR _ _ (go s wt a t G2 st2 (b1.trans b2) ok ha ht)⟩
    by_cases h3 : z = 3
    · refine ifY (decide_eq_true (congrArg V.int h3)) ⟨_, rfl, B.b, _, rfl, bkF bk1.b, B.f, _, rfl, .inl (SqL.of bk1.f), _, _, rfl, rfl, _, rfl, ?_⟩
      rw [List.length_map, List.length_map]
      by_cases h2 : 2 < fs.length
      · refine ifY (decide_eq_true (by omega)) ?_
        refine ⟨_, rfl, B.b, _, rfl, bkF bk1.b, B.f, _, rfl, .inl (SqL.of bk1.f), fun L nL => ?_⟩
        have Lp := st1.ne nL
        have nLH := bt_none b1 st1 nL
        refine ⟨3, rfl, by decide, by decide, fun D nD => ?_⟩
        have hL0 : upd F L (.lst ((fs.map (·.1)).map V.str)) L = some (.lst ((fs.map (·.1)).map V.str)) := upd_same
        have stL := st1.up (o := .lst ((fs.map (·.1)).map V.str)) nL
        have bL := b1.set (o := .lst ((fs.map (·.1)).map V.str)) nLH
        generalize upd F L (.lst ((fs.map (·.1)).map V.str)) = F1 at hL0 stL bL nD ⊢
        have Dp := stL.ne nD
        have DL : D ≠ L := fun z => by rw [z, hL0] at nD; cases nD
        have nDH := bt_none bL stL nD
        refine lc_it (walk_range (lo := 0) (n := 3)) (fun k G => ∃ ta re : List (Str × Nat), StL G p l ∧ Bt p H G ∧ G D = some (.lst ((ta.map (·.1)).map V.str)) ∧ G L = some (.lst ((re.map (·.1)).map V.str)) ∧ (ta ++ re).Perm fs ∧ ta.length = k)
          ⟨[], fs, stL.up nD, bL.set nDH, upd_same, (upd_ne (Ne.symm DL)).trans hL0, List.Perm.refl _, rfl⟩ (fun _ _ _ _ => trivial) (fun k v G0 G hk ⟨ta, re, stG, bG, hD, hL, pm, lt⟩ ⟨e, ev⟩ => ?_) (fun G2 ⟨ta, re, st2, b2, hD, hL, pm, lt⟩ => ?_)
        · subst e ev
          have lr : ta.length + re.length = fs.length := by rw [← List.length_append]; exact pm.length_eq
          have fs12 : fs.length ≤ 12 := by
            have nd : (fs.map (·.1)).Nodup := by
              refine List.pairwise_map.mpr (List.Pairwise.imp_of_mem (fun {a b} ha hb h e => ?_) inv.fd)
              have h1 := (inv.fr a ha).1
              have h2 := (inv.fr b hb).1
              rw [e, h2] at h1
              have h3 := Option.some.inj h1
              have h4 : Px.var b.2 = Px.var a.2 := congrArg P3.x h3
              injection h4 with h4
              omega
            have h1 := nodup_sub nd (b := c.names) fun x m => by
              obtain ⟨e, me, rfl⟩ := List.mem_map.mp m
              exact pt_mem (inv.fr e me).1
            rw [List.length_map] at h1
            have h2 : c.names.length ≤ 12 := by rw [inv.ck.nm, List.length_map]; exact inv.ck.len
            omega
          refine ⟨rfl, _, rfl, .inl ⟨rfl, _, SqL.of hL⟩, _, rfl, _, rfl, L, _, rfl, .inl (SqL.of hL), p, l, _, rfl, stG, by rw [List.length_map, List.length_map]; omega, by rw [List.length_map, List.length_map]; omega, fun z2 G4 z20 z21 st4 b4 => ?_⟩
          rw [List.length_map, List.length_map] at z21
          obtain ⟨n, rfl⟩ : ∃ n : Nat, z2 = n := ⟨z2.toNat, by omega⟩
          have ln : n < re.length := by omega
          have hL4 := b4 _ _ Lp.1 hL
          have hD4 := b4 _ _ Dp.1 hD
          have hn' := List.getElem?_eq_getElem ln
          refine ⟨L, _, _, n, .str re[n].1, rfl, rfl, hL4, by omega, by omega, ?_, by rw [List.getElem?_map, List.getElem?_map, hn']; rfl, ?_⟩
          · unfold seqIndex?
            simp
            omega
          · refine ⟨_, (upd_ne DL).trans hD4, by rw [List.length_map, List.length_map, sizeLine_eq]; omega, ta ++ [re[n]], re.eraseIdx n, (st4.set Lp.1 Lp.2).set Dp.1 Dp.2, ((bG.trans b4).set nLH).set nDH, ?_, ?_, ?_, by rw [List.length_append, lt]; rfl⟩
            · rw [upd_same, List.map_append, List.map_append]
              rfl
            · rw [upd_ne (Ne.symm DL), upd_same, map_erase, map_erase]
            · refine List.Perm.trans ?_ pm
              rw [List.append_assoc]
              exact List.Perm.append_left ta (perm_erase hn')
        · obtain ⟨e1, e2, e3, rfl⟩ := len3 lt
          have ap : ([e1, e2, e3] ++ re).Pairwise apF := by
            refine (pm.pairwise_iff (R := apF) fun {a b} h => ?_).mpr (inv.fd.imp fun h => .inl h)
            exact h.elim .inr .inl
          have ap3 := (List.pairwise_append.mp ap).1
          have a12 : apF e1 e2 := List.rel_of_pairwise_cons ap3 (by simp)
          have a13 : apF e1 e3 := List.rel_of_pairwise_cons ap3 (by simp)
          have a23 : apF e2 e3 := List.rel_of_pairwise_cons (List.Pairwise.of_cons ap3) (by simp)
          have m1 : e1 ∈ fs := pm.subset (by simp)
          have m2 : e2 ∈ fs := pm.subset (by simp)
          have m3 : e3 ∈ fs := pm.subset (by simp)
          refine ⟨D, _, rfl, SqL.of hD, rfl, _, _, rfl, _, _, rfl, _, _, rfl, rfl, ?_⟩
          clear hL hD lt pm ap ap3
          refine ⟨by show 5 ≤ sizeLine; decide, fun t nt => ⟨_, rfl, p, l, 5, rfl, st2.same (same_new nt), by decide, by decide, fun z2 G3 z20 z21 st3 b3 => ?_⟩⟩
          have tp := (st2.ne nt).1
          have ht : G3 t = some (.tup [.str "mirror", .str "foot", .str "meet", .str "second", .str "centre"]) := b3 _ _ tp upd_same
          have b03 : Bt p H G3 := (b2.set (bt_none b2 st2 nt)).trans b3
          obtain ⟨n, rfl⟩ : ∃ n : Nat, z2 = n := ⟨z2.toNat, by omega⟩
          obtain ⟨d, hd, hdn⟩ := heavyL_at n (by omega)
          refine ⟨t, _, _, _, rfl, rfl, SqT.of ht, atI_nat hdn, ?_⟩
          refine ⟨_, rfl, rfl, _, rfl, ?_⟩
          rw [wdS_meet]
          have ok := heavy_ok inv hn new m1 m2 m3 a12 a13 a23 hd
          by_cases hm : d = .meet
          · subst hm
            refine ifY rfl ⟨_, rfl, _, rfl, _, rfl, _, rfl, _, rfl, _, rfl, by show 6 ≤ sizeLine; decide, fun t2 n2 => ⟨by show 2 ≤ sizeLine; decide, fun a na => ?_⟩⟩
            have s2 := (same_new (o := .tup [.str (wdS .meet), .str nm, .str e1.1, .str e2.1, .str e3.1, .str e1.1]) n2).trans (same_new (o := .tup [.ref t2, .int 99]) na)
            rw [if_pos rfl] at ok
            exact go _ _ a t2 _ (st3.same s2) (b03.trans (Bt.same s2)) ok upd_same (same_new na _ _ upd_same)
          · rw [decide_eq_false hm]
            rw [if_neg hm] at ok
            refine ifN rfl ?_
            dsimp only [tNext]
            refine ⟨_, rfl, _, rfl, _, rfl, _, rfl, _, rfl, by show 5 ≤ sizeLine; decide, fun t2 n2 => ⟨by show 2 ≤ sizeLine; decide, fun a na => ?_⟩⟩
            have s2 := (same_new (o := .tup [.str (wdS d), .str nm, .str e1.1, .str e2.1, .str e3.1]) n2).trans (same_new (o := .tup [.ref t2, .int 99]) na)
            exact go _ _ a t2 _ (st3.same s2) (b03.trans (Bt.same s2)) ok upd_same (same_new na _ _ upd_same)
      · refine ifN (decide_eq_false (by omega)) ?_
        exact ⟨_, rfl, _, rfl, _, rfl, light _ _ rfl fun _ _ q => q⟩
    · refine ifN (decide_eq_false fun e => h3 (V.int.inj e)) ?_
      exact ⟨_, rfl, _, rfl, _, rfl, light _ _ rfl fun _ _ q => q⟩
end
end CN

set_option Elab.async false
set_option linter.all false
set_option maxRecDepth 100000
set_option maxHeartbeats 8000000
set_option autoImplicit false
set_option pp.maxSteps 600
/-! The law's spoilt steps. -/
namespace CN
open PySem L2 TL K1D K2P
open K4 (isNm lets)
abbrev sLLet : Stmt := K2P.top 76
abbrev sSpoilt : Stmt := K2P.top 75
def l16 : List Nat := [97, 98, 99, 100, 101, 102, 103, 104, 105, 106, 107, 108, 109, 110, 111, 112]
def lets16 : List Str := l16.map fun c => ⟨#[c]⟩
theorem lets16_nd : lets16.Nodup := by decide +kernel
theorem spare_ne {names : List Str} {nm : Str} (h : names.length ≤ 12) : (lets16.filter fun x => !decide (x ∈ names) && !decide (x = nm)) ≠ [] := fun e => by
  have h1 := nodup_sub lets16_nd (b := nm :: names) fun x m => by
    have := List.filter_eq_nil_iff.mp e x m
    by_cases h1 : x ∈ names
    · exact List.mem_cons_of_mem _ h1
    · by_cases h2 : x = nm
      · rw [h2]; exact List.mem_cons_self
      · exact absurd (by rw [decide_eq_false h1, decide_eq_false h2]; rfl) this
  rw [List.length_cons, show lets16.length = 16 from rfl] at h1
  omega
def spLLet : Sp := fun vs H Q _ => vs = [] ∧ ∀ (p : Addr) (G : Hp), Same H G → H p = none → G p = some (.lst (lets16.map V.str)) → Q (.ref p) G
/-- a plain value; its members, too -/
def OddV (H : Hp) (v : V) : Prop := Pl H v ∧ ∀ us, SeqV H v us → Pls H us ∧ us.length < 1000000
theorem OddV.up {H G : Hp} {v : V} (h : OddV H v) (s : Same H G) : OddV G v := by
  refine ⟨h.1.up s, fun us sq => ?_⟩
  rcases h.1.seq with ns | ⟨us0, sq0⟩
  · obtain ⟨a, rfl, _⟩ := sq
    cases ns
  · have e : us = us0 := by
      obtain ⟨a, rfl, q⟩ := sq
      obtain ⟨a2, e2, q2⟩ := sq0.up s
      cases e2
      rcases q with q | q <;> rcases q2 with q2 | q2 <;> (rw [q] at q2; cases q2 <;> rfl)
    rw [e]
    exact ⟨(h.2 us0 sq0).1.up s, (h.2 us0 sq0).2⟩
theorem OddV.flat {H : Hp} {v : V} (h : Pl H v) (ns : NoSeq v) : OddV H v := ⟨h, fun us ⟨a, e, _⟩ => by subst e; cases ns⟩
theorem OddV.lst {H : Hp} {a : Addr} {us : List V} (h : H a = some (.lst us)) (p : Pls H us) (l : us.length < 1000000) : OddV H (.ref a) := ⟨.lst h, fun vs ⟨a2, e, q⟩ => by
  cases e
  rcases q with q | q <;> (rw [h] at q; cases q)
  exact ⟨p, l⟩⟩
theorem OddV.tup {H : Hp} {a : Addr} {us : List V} (h : H a = some (.tup us)) (p : Pls H us) (l : us.length < 1000000) : OddV H (.ref a) := ⟨.tup h, fun vs ⟨a2, e, q⟩ => by
  cases e
  rcases q with q | q <;> (rw [h] at q; cases q)
  exact ⟨p, l⟩⟩
theorem Pl.chg {D : List Addr} {H G : Hp} {v : V} (h : Pl H v) (c : Chg D H G) (n : ∀ d ∈ D, ∀ us, H d ≠ some (.lst us) ∧ H d ≠ some (.tup us)) : Pl G v := by
  cases h with
  | non => exact .non
  | bl b => exact .bl b
  | int i => exact .int i
  | str x l => exact .str x l
  | lst h => exact .lst (c _ _ h fun m => (n _ m _).1 h)
  | tup h => exact .tup (c _ _ h fun m => (n _ m _).2 h)
theorem StL.noSq {H : Hp} {p l : Addr} (h : StL H p l) : ∀ d ∈ [p], ∀ us, H d ≠ some (.lst us) ∧ H d ≠ some (.tup us) := fun d m us => by
  obtain ⟨ns, a, v, f, m2, n, sd, h1, _⟩ := h
  obtain rfl := List.mem_singleton.mp m
  exact ⟨fun q => (by rw [h1] at q; cases q), fun q => (by rw [h1] at q; cases q)⟩
theorem Pl.bt {H G : Hp} {p l : Addr} {v : V} (h : Pl H v) (b : Bt p H G) (s : StL H p l) : Pl G v := h.chg b.chg s.noSq
theorem Pls.bt {H G : Hp} {p l : Addr} {us : List V} (h : Pls H us) (b : Bt p H G) (s : StL H p l) : Pls G us := fun v m => (h v m).bt b s
theorem SeqV.bt {H G : Hp} {p l : Addr} {v : V} {us : List V} (h : SeqV H v us) (b : Bt p H G) (s : StL H p l) : SeqV G v us := by
  obtain ⟨a, e, q⟩ := h
  refine ⟨a, e, q.elim (fun q => .inl (b _ _ (fun z => ?_) q)) fun q => .inr (b _ _ (fun z => ?_) q)⟩
  · exact (s.noSq a (by rw [z]; exact List.mem_cons_self) us).1 q
  · exact (s.noSq a (by rw [z]; exact List.mem_cons_self) us).2 q
theorem OddV.bt {H G : Hp} {p l : Addr} {v : V} (h : OddV H v) (b : Bt p H G) (s : StL H p l) : OddV G v := by
  refine ⟨h.1.bt b s, fun us sq => ?_⟩
  rcases h.1.seq with ns | ⟨us0, sq0⟩
  · obtain ⟨a, rfl, _⟩ := sq
    cases ns
  · have e : us = us0 := by
      obtain ⟨a, rfl, q⟩ := sq
      obtain ⟨a2, e2, q2⟩ := sq0.bt b s
      cases e2
      rcases q with q | q <;> rcases q2 with q2 | q2 <;> (rw [q] at q2; cases q2 <;> rfl)
    rw [e]
    exact ⟨(h.2 us0 sq0).1.bt b s, (h.2 us0 sq0).2⟩
/-- a list's items altered -/
theorem Pl.setL {H : Hp} {v : V} {R : Addr} {us us2 : List V} (h : Pl H v) (hR : H R = some (.lst us)) : Pl (upd H R (.lst us2)) v := by
  cases h with
  | non => exact .non
  | bl b => exact .bl b
  | int i => exact .int i
  | str x l => exact .str x l
  | @lst a us3 h =>
    by_cases e : a = R
    · subst e; exact .lst upd_same
    · exact .lst ((upd_ne e).trans h)
  | @tup a us3 h =>
    have e : a ≠ R := fun e => by rw [e, hR] at h; cases h
    exact .tup ((upd_ne e).trans h)
theorem Pls.setL {H : Hp} {vs : List V} {R : Addr} {us us2 : List V} (h : Pls H vs) (hR : H R = some (.lst us)) : Pls (upd H R (.lst us2)) vs := fun v m => (h v m).setL hR
theorem cutV_mem {vs : List V} {lo hi : Option Int} {v : V} (h : v ∈ cutV vs lo hi) : v ∈ vs := List.mem_of_mem_drop (List.mem_of_mem_take h)
theorem cutV_len (vs : List V) (lo hi : Option Int) : (cutV vs lo hi).length ≤ vs.length := by
  unfold cutV
  rw [List.length_take, List.length_drop]
  omega
/-- odd values at O, the step's row at R -/
structure SpS (H0 G : Hp) (p l O R : Addr) (OV RV : List V) : Prop where
  st : StL G p l
  b : Bt p H0 G
  hO : G O = some (.lst OV)
  hR : G R = some (.lst RV)
  pO : Pls G OV
  pR : Pls G RV
  lO : 0 < OV.length ∧ OV.length ≤ 1000
  lR : 0 < RV.length ∧ RV.length ≤ 10
  OR : O ≠ R
  Op : O ≠ p ∧ R ≠ p ∧ O ≠ l ∧ R ≠ l
  nR : H0 R = none
theorem SpS.bt {H0 G F : Hp} {p l O R : Addr} {OV RV : List V} (h : SpS H0 G p l O R OV RV) (b : Bt p G F) (s : StL F p l) : SpS H0 F p l O R OV RV :=
  ⟨s, h.b.trans b, b _ _ h.Op.1 h.hO, b _ _ h.Op.2.1 h.hR, h.pO.bt b h.st, h.pR.bt b h.st, h.lO, h.lR, h.OR, h.Op, h.nR⟩
/-- a member of the row altered -/
theorem SpS.set {H0 G : Hp} {p l O R : Addr} {OV RV RW : List V} {v : V} (h : SpS H0 G p l O R OV RV) (hv : v ∈ OV) (hw : ∀ u ∈ RW, u = v ∨ u ∈ RV) (lw : 0 < RW.length ∧ RW.length ≤ 10) : SpS H0 (upd G R (.lst RW)) p l O R OV RW :=
  ⟨h.st.set h.Op.2.1 h.Op.2.2.2, h.b.set h.nR, (upd_ne h.OR).trans h.hO, upd_same, h.pO.setL h.hR, fun u m => (hw u m).elim (fun e => by rw [e]; exact (h.pO v hv).setL h.hR) fun m => (h.pR u m).setL h.hR, h.lO, lw, h.OR, h.Op, h.nR⟩
section
variable {K : PySem.W.Frag} {σ : L2.St} {H0 G : Hp} {p l O R : Addr} {OV RV : List V}
/-- odd[draw(len(odd))] -/
theorem odd_draw {Q : VK} (S : SpS H0 G p l O R OV RV) (h0 : σ[0]? = some (some (.ref p))) (h5 : σ[5]? = some (some (.ref O))) (go : ∀ v F, v ∈ OV → SpS H0 F p l O R OV RV → Q v F) :
    tOp (rIxL K) (tVar 5) (tCall spDraw [] E0 (tCons (tVar 0) (tCons (tCB (fun xs H Q => ∃ p ys, xs = [V.ref p] ∧ (SqL K H p ys ∨ SqT K H p ys) ∧ Q (V.int ys.length) H) (tCons (tVar 5) tNil)) tNil))) σ G Q := by
  have l1 := S.lO
  refine ⟨_, h5, _, h0, _, h5, O, _, rfl, .inl (SqL.of S.hO), p, l, _, rfl, S.st, by omega, by omega, fun z F z0 z1 st b => ?_⟩
  obtain ⟨n, rfl⟩ : ∃ n : Nat, z = n := ⟨z.toNat, by omega⟩
  have ln : n < OV.length := by omega
  have S2 := S.bt b st
  exact ⟨O, _, _, _, rfl, rfl, SqL.of S2.hO, atI_nat (List.getElem?_eq_getElem ln), go _ _ (List.getElem_mem ln) S2⟩
/-- row[draw(len(row))] = odd[draw(len(odd))] -/
theorem row_store {D : Ends} (S : SpS H0 G p l O R OV RV) (h0 : σ[0]? = some (some (.ref p))) (h5 : σ[5]? = some (some (.ref O))) (h7 : σ[7]? = some (some (.ref R))) (go : ∀ F RW, SpS H0 F p l O R OV RW → D.nx σ F) :
    tAsg (tOp (rIxL K) (tVar 5) (tCall spDraw [] E0 (tCons (tVar 0) (tCons (tCB (fun xs H Q => ∃ p ys, xs = [V.ref p] ∧ (SqL K H p ys ∨ SqT K H p ys) ∧ Q (V.int ys.length) H) (tCons (tVar 5) tNil)) tNil))))
      (gSub (tVar 7) (tCall spDraw [] E0 (tCons (tVar 0) (tCons (tCB (fun xs H Q => ∃ p ys, xs = [V.ref p] ∧ (SqL K H p ys ∨ SqT K H p ys) ∧ Q (V.int ys.length) H) (tCons (tVar 7) tNil)) tNil))) rSetL) D σ G := by
  refine odd_draw S h0 h5 fun v F hv SF => ?_
  have l1 := SF.lR
  refine ⟨_, h7, _, h0, _, h7, R, _, rfl, .inl (SqL.of SF.hR), p, l, _, rfl, SF.st, by omega, by omega, fun z F2 z0 z1 st b => ?_⟩
  obtain ⟨n, rfl⟩ : ∃ n : Nat, z = n := ⟨z.toNat, by omega⟩
  have S2 := SF.bt b st
  refine ⟨R, _, _, n, rfl, rfl, S2.hR, by unfold ixN; rw [if_pos (by omega), if_pos (by omega), Int.toNat_natCast], ?_⟩
  refine go _ _ (S2.set hv (fun u m => ?_) (by rw [List.length_set]; exact l1))
  rcases List.mem_or_eq_of_mem_set m with m | m
  · exact .inr m
  · exact .inl m
end
def spSpoilt : Sp := fun vs H Q _ => ∃ (p l : Addr) (B : Bk) (c : Cst) (ws fs : List (Str × Nat)) (a : Addr) (s : Stp), vs = [.ref p, .ref B.b, .ref a] ∧ StL H p l ∧ BookAt H B c ws fs ∧ (B.b ≠ p ∧ B.s ≠ p ∧ B.t ≠ p ∧ B.f ≠ p ∧ B.w ≠ p) ∧ Cok c ∧ H a = some (.tup s.vals) ∧ Right c.names s ∧
  ∀ (x : V) (G : Hp), StL G p l → Bt p H G → OddV G x → Q x G
section
variable {P : Program} {w : World} {K : PySem.W.Frag} {mg : Str → Option Value} {base : Heap} {fD fL : Addr} {dD dL : FuncData}
theorem scLLet : FnScope ["letter"] [] (defScope sLLet) := ⟨rfl, rfl, rfl, by decide +kernel, rfl, by decide +kernel, by decide +kernel⟩
theorem scSpoilt : FnScope ["state", "book", "step", "there", "none", "odd", "pick", "row", "wrong", "name"] ["state", "book", "step"] (defScope sSpoilt) := ⟨rfl, rfl, rfl, by decide +kernel, rfl, by decide +kernel, by decide +kernel⟩
theorem ok_llet {f : Addr} {fd : FuncData} (F : Fun K "_law_letters" "_law_letters" sLLet f fd) : FnOk P w K mg base CX0 1 f fd [] spLLet := by
  refine F.ok scLLet (fun vs H Q E h => ?_) (fun cdv A outer s H vs Q E hr h => ?_)
  · obtain ⟨rfl, _⟩ := h
    rfl
  · obtain ⟨rfl, go⟩ := h
    refine ⟨_, (pss_one (ps_ret (pe_lc (own := [("letter", 0)]) (g := (gName 0)) (tt := tYes) (te := (tVar 0)) rfl scLLet.nd (pi_str pe_str) (blkOk_by (own := [("letter", 0)]) (N := ["letter"]) (sc := defScope sLLet) (by decide +kernel)) (fun _ _ _ _ _ => (pg_name (i := 0) scLLet.nd rfl (Or.inl rfl))) (fun _ _ _ _ _ => pts_nil) (fun _ _ _ _ _ => (pv 0))))), ?_⟩
    refine ⟨"abcdefghijklmnop", rfl, fun D nD => ?_⟩
    have e0 : (tl ("abcdefghijklmnop" : Str)) = l16 := by decide +kernel
    refine lc_it (walk_str (z := "abcdefghijklmnop")) (fun i G => Same H G ∧ G D = some (.lst ((lets16.take i).map V.str))) ⟨same_new nD, upd_same⟩ (fun _ _ _ _ => trivial) (fun i v G0 G hi ⟨sG, hD⟩ ⟨e, c, hc, ev⟩ => ?_) (fun G ⟨sG, hD⟩ => ?_)
    · subst e ev
      have hc' : l16[i]? = some c := by rw [← e0]; simpa using hc
      have hx : lets16[i]? = some ⟨#[c]⟩ := by unfold lets16; rw [List.getElem?_map, hc']; rfl
      refine ⟨rfl, _, rfl, _, hD, ?_, fun b o e => (upd_ne (ne_of_none e nD)).trans (sG b o e), ?_⟩
      · rw [List.length_map, List.length_take, show lets16.length = 16 from rfl, sizeLine_eq]
        omega
      · rw [upd_same, K2P.take_snoc hx, List.map_append]
        rfl
    · refine go D G sG nD ?_
      rw [hD]
      have : ("abcdefghijklmnop" : Str).cps.size = 16 := by decide +kernel
      rw [this]
      rfl
theorem ok_spoilt {f : Addr} {fd : FuncData} (F : Fun K "_law_spoilt" "_law_spoilt" sSpoilt f fd) (T : LStepTxt mg) (UD : CallT P w K mg base CX0 1 "_law_draw" ["state", "many"] spDraw fD dD) (UL : CallT P w K mg base CX0 1 "_law_letters" [] spLLet fL dL) : FnOk P w K mg base CX0 2 f fd ["state", "book", "step"] spSpoilt := by
  refine F.ok scSpoilt (fun vs H Q E h => ?_) (fun cdv Ar outer s H vs Q E hr h => ?_)
  · obtain ⟨p, l, B, c, ws, fs, a, s, rfl, _⟩ := h
    rfl
  · obtain ⟨p, l, B, c, ws, fs, a, s, rfl, st, bk, bp, ck, ha, rt, go⟩ := h
    refine ⟨_, (pss_cons (ps_set (i := 3) scSpoilt.nd rfl (Or.inr rfl) (pe_dget (hu1 hr) (pv 1) pe_str (fun _ _ => rfl)))
      (pss_cons (ps_set (i := 4) scSpoilt.nd rfl (Or.inl rfl) (pe_ix ix_list (pe_lc (own := [("name", 9)]) (g := (gName 9)) (tt := (tAnd (tTest (tOp (rIn K true) (tVar 9) (tVar 3))) (tTest (tOp rNe (tVar 9) (tOp (rIxT K) (tVar 2) (tC (.int 1))))))) (te := (tVar 9)) rfl scSpoilt.nd (pi_list (pe_call0 UL.ok (hr.mono (by decide)) rfl UL.g UL.k UL.b .nil pass0)) (blkOk_by (own := [("name", 9)]) (N := ["state", "book", "step", "there", "none", "odd", "pick", "row", "wrong", "name"]) (sc := defScope sSpoilt) (by decide +kernel)) (fun _ _ _ _ _ => (pg_name (i := 9) scSpoilt.nd rfl (Or.inl rfl))) (fun _ _ _ _ _ => (pts_one (PW.pt (pw_and (pt_cmpR op_notIn_seq (pv 9) (pv 3) (by rfl)) (pw_and1 (pt_cmpR op_ne (pv 9) (pe_ix ix_tup (pv 2) pe_int (fun _ _ => rfl)) (nomark _))))))) (fun _ _ _ _ _ => (pv 9))) pe_int (fun _ _ => rfl)))
      (pss_cons (ps_set (i := 5) scSpoilt.nd rfl (Or.inl rfl) (pe_lst (pa_cons pe_non (pa_cons pe_int (pa_cons pe_str (pa_cons pe_str (pa_cons pe_str (pa_cons pe_str (pa_cons pe_str (pa_cons (pe_lst (pa_cons (pe_ix ix_tup (pv 2) pe_int (fun _ _ => rfl)) pa_nil)) (pa_cons (pe_tup (pa_cons (pe_ix ix_tup (pv 2) pe_int (fun _ _ => rfl)) pa_nil)) (pa_cons pe_bl (pa_cons (pv 4) (pa_cons (pe_ix ix_tup (pv 2) pe_int (fun _ _ => rfl)) (pa_cons pe_int (pa_cons (pe_un un_neg pe_int) (pa_cons pe_int (pa_cons (pe_op op_pow pe_int pe_int) pa_nil))))))))))))))))))
      (pss_cons (ps_set (i := 5) scSpoilt.nd rfl (Or.inl rfl) (pe_op op_cat (pe_op op_cat (pv 5) (pe_lst (pa_cons pe_str (pa_cons pe_bl (pa_cons pe_int (pa_cons pe_str (pa_cons (pe_un un_neg pe_int) (pa_cons pe_int pa_nil)))))))) (pe_slice sl_list (pv 3) po_none (po_some pe_int))))
      (pss_cons (ps_set (i := 6) scSpoilt.nd rfl (Or.inl rfl) (pe_call UD.ok (hr.mono (by decide)) rfl UD.g UD.k UD.b .nil pass0 (pa_cons (pv 0) (pa_cons pe_int pa_nil))))
      (pss_cons (ps_set (i := 7) scSpoilt.nd rfl (Or.inl rfl) (pe_callTy call_list_of (by rfl) T.list (by decide +kernel) (pa_cons (pv 2) pa_nil)))
      (pss_cons (ps_if (pt_cmpR op_eq (pv 6) pe_int (nomark _)) (pss_cons (ps_expr (pe_bm PySem.F.plainAttrs_list PySem.F.slot_list_append PySem.F.type_list_append mt_append (pv 7) (pa_cons (pe_ix ix_list (pv 5) (pe_call UD.ok (hr.mono (by decide)) rfl UD.g UD.k UD.b .nil pass0 (pa_cons (pv 0) (pa_cons (pe_callB call_len_seq (by rfl) T.len PySem.boot_len (pa_cons (pv 5) pa_nil)) pa_nil))) (fun _ _ => rfl)) pa_nil)))
      (pss_one (ps_ret (pe_tupleOf (by rfl) T.tuple (pv 7))))) pss_nil)
      (pss_cons (ps_if (pt_cmpR op_eq (pv 6) pe_int (nomark _)) (pss_one (ps_ret (pe_tupleOf (by rfl) T.tuple (pe_slice sl_list (pv 7) po_none (po_some (pe_call UD.ok (hr.mono (by decide)) rfl UD.g UD.k UD.b .nil pass0 (pa_cons (pv 0) (pa_cons (pe_callB call_len_seq (by rfl) T.len PySem.boot_len (pa_cons (pv 7) pa_nil)) pa_nil)))))))) pss_nil)
      (pss_cons (ps_if (pt_cmpR op_eq (pv 6) pe_int (nomark _)) (pss_cons (ps_set (i := 8) scSpoilt.nd rfl (Or.inl rfl) (pe_lst (pa_cons pe_non (pa_cons pe_int (pa_cons pe_str (pa_cons pe_str (pa_cons (pe_tup pa_nil) (pa_cons (pe_lst pa_nil) (pa_cons pe_bl (pa_cons (pe_tup (pa_cons pe_non pa_nil)) (pa_cons (pe_tup (pa_cons pe_str pa_nil)) (pa_cons (pe_tup (pa_cons pe_str (pa_cons (pe_ix ix_tup (pv 2) pe_int (fun _ _ => rfl)) pa_nil))) (pa_cons (pe_lst (pa_cons (pe_lst (pa_cons pe_str pa_nil)) (pa_cons (pe_ix ix_tup (pv 2) pe_int (fun _ _ => rfl)) pa_nil))) (pa_cons (pe_un un_neg pe_int) pa_nil))))))))))))))
      (pss_one (ps_ret (pe_ix ix_list (pv 8) (pe_call UD.ok (hr.mono (by decide)) rfl UD.g UD.k UD.b .nil pass0 (pa_cons (pv 0) (pa_cons (pe_callB call_len_seq (by rfl) T.len PySem.boot_len (pa_cons (pv 8) pa_nil)) pa_nil))) (fun _ _ => rfl))))) pss_nil)
      (pss_cons (ps_asg (pe_ix ix_list (pv 5) (pe_call UD.ok (hr.mono (by decide)) rfl UD.g UD.k UD.b .nil pass0 (pa_cons (pv 0) (pa_cons (pe_callB call_len_seq (by rfl) T.len PySem.boot_len (pa_cons (pv 5) pa_nil)) pa_nil))) (fun _ _ => rfl)) (pg_sub (pv 7) (pe_call UD.ok (hr.mono (by decide)) rfl UD.g UD.k UD.b .nil pass0 (pa_cons (pv 0) (pa_cons (pe_callB call_len_seq (by rfl) T.len PySem.boot_len (pa_cons (pv 7) pa_nil)) pa_nil))) set_list))
      (C8.pss_cut (ps_if (pt_cmpR op_gt (pv 6) pe_int (nomark _)) (pss_one (ps_asg (pe_ix ix_list (pv 5) (pe_call UD.ok (hr.mono (by decide)) rfl UD.g UD.k UD.b .nil pass0 (pa_cons (pv 0) (pa_cons (pe_callB call_len_seq (by rfl) T.len PySem.boot_len (pa_cons (pv 5) pa_nil)) pa_nil))) (fun _ _ => rfl)) (pg_sub (pv 7) (pe_call UD.ok (hr.mono (by decide)) rfl UD.g UD.k UD.b .nil pass0 (pa_cons (pv 0) (pa_cons (pe_callB call_len_seq (by rfl) T.len PySem.boot_len (pa_cons (pv 7) pa_nil)) pa_nil))) set_list))) pss_nil) (pss_one (ps_ret (pe_ix ix_tup (pe_tup (pa_cons (pe_tupleOf (by rfl) T.tuple (pv 7)) (pa_cons (pv 7) pa_nil))) (pe_call UD.ok (hr.mono (by decide)) rfl UD.g UD.k UD.b .nil pass0 (pa_cons (pv 0) (pa_cons pe_int pa_nil))) (fun _ _ => rfl))))))))))))))), ?_⟩
    refine ⟨_, rfl, B.b, _, rfl, bkT bk.b, ?_⟩
    have nl12 : c.names.length ≤ 12 := by rw [ck.nm, List.length_map]; exact ck.len
    have nm4 := nm_len rt.nm
    have at1 : atI s.vals ((1 : Nat) : Int) = some (V.str s.nm) := atI_nat rfl
    obtain ⟨NN, hNN⟩ : ∃ NN, NN = lets16.filter fun x => !decide (x ∈ c.names) && !decide (x = s.nm) := ⟨_, rfl⟩
    have nn0 : NN ≠ [] := by rw [hNN]; exact spare_ne nl12
    have lets1 : ∀ x ∈ lets16, x.length ≤ 1 := by decide +kernel
    have nn1 : ∀ x ∈ NN, x.length ≤ 1 := fun x m => by rw [hNN] at m; exact lets1 x (List.mem_filter.mp m).1
    refine ⟨rfl, fun L G0 s0 nL hL => ⟨L, rfl, ⟨_, SqL.of hL⟩, fun D nD => ?_⟩⟩
    refine lc_it (walk_list (K := K) (a := L) (xs := lets16.map V.str)) (fun i G => Same G0 G ∧ G D = some (.lst (((lets16.take i).filter fun x => !decide (x ∈ c.names) && !decide (x = s.nm)).map V.str))) ⟨same_new nD, upd_same⟩ (fun i G _ ⟨sG, _⟩ => SqL.of (sG _ _ hL)) (fun i v F0 F hi ⟨sF, hD⟩ ⟨e, hv⟩ => ?_) (fun G ⟨sG, hD⟩ => ?_)
    · subst e
      have hv : (lets16.map V.str)[i]? = some v := hv
      rw [List.getElem?_map] at hv
      obtain ⟨x, hx, rfl⟩ := Option.map_eq_some_iff.mp hv
      have tk : lets16.take (i + 1) = lets16.take i ++ [x] := K2P.take_snoc hx
      have s1 := s0.trans sF
      refine ⟨rfl, _, rfl, _, rfl, B.t, _, rfl, .inl (SqL.of (s1 _ _ bk.t)), rfl, flat_strs _, _, rfl, ?_⟩
      rw [if_pos rfl, in_strs]
      have keep : (!decide (x ∈ c.names) && !decide (x = s.nm)) = false → Same G0 F ∧ F D = some (HO.lst (((lets16.take (i + 1)).filter fun x => !decide (x ∈ c.names) && !decide (x = s.nm)).map V.str)) := fun e => ⟨sF, by
        rw [hD, tk, List.filter_append, List.filter_cons, if_neg (by rw [e]; exact Bool.false_ne_true)]
        simp⟩
      by_cases h1 : x ∈ c.names
      · exact ifN (by rw [decide_eq_true h1]; rfl) (ifN rfl (keep (by rw [decide_eq_true h1]; rfl)))
      · refine ifY (by rw [decide_eq_false h1]; rfl) ⟨_, rfl, _, rfl, a, _, _, _, rfl, rfl, SqT.of (s1 _ _ ha), at1, rfl, _, rfl, ?_⟩
        by_cases h2 : x = s.nm
        · exact ifN (congrArg Bool.not (decide_eq_true (congrArg V.str h2))) (keep (by rw [decide_eq_true h2, Bool.not_true, Bool.and_false]))
        · refine ifY (congrArg Bool.not (decide_eq_false fun z => h2 (V.str.inj z))) ⟨_, rfl, _, hD, ?_, fun b o e => (upd_ne (ne_of_none e nD)).trans (sF b o e), ?_⟩
          · rw [List.length_map, sizeLine_eq]
            have h3 := List.length_filter_le (fun x => !decide (x ∈ c.names) && !decide (x = s.nm)) (lets16.take i)
            rw [List.length_take] at h3
            have : lets16.length = 16 := rfl
            omega
          · rw [upd_same, tk, List.filter_append, List.filter_cons, if_pos (by rw [decide_eq_false h1, decide_eq_false h2]; rfl), List.map_append]
            rfl
    · rw [List.length_map, List.take_length, ← hNN] at hD
      clear hNN lets1
      obtain ⟨x0, NR, rfl⟩ : ∃ x r, NN = x :: r := by
        cases NN with
        | nil => exact absurd rfl nn0
        | cons x r => exact ⟨x, r, rfl⟩
      have x01 := nn1 x0 List.mem_cons_self
      refine ⟨D, _, _, .str x0, rfl, rfl, SqL.of hD, (show atI _ ((0 : Nat) : Int) = some (V.str x0) from atI_nat rfl), ?_⟩
      have s1 := s0.trans sG
      clear hD hL nD nL sG s0 nn0 nn1
      have st1 := st.same s1
      have bk1 := bk.same s1
      have b1 : Bt p H G := Bt.same s1
      have ha1 := s1 _ _ ha
      clear s1
      dsimp only [gName]
      refine st_re (σ2 := [some (.ref p), some (.ref B.b), some (.ref a), some (.ref B.t), some (.str x0), none, none, none, none, none]) rfl ?_
      refine ⟨_, rfl, a, _, _, _, rfl, rfl, SqT.of ha1, at1, by show 1 ≤ sizeLine; decide, fun q1 n1 => ?_⟩
      have u1 := same_new (o := .lst [.str s.nm]) n1
      have h1 : upd G q1 (.lst [.str s.nm]) q1 = some (.lst [.str s.nm]) := upd_same
      generalize upd G q1 (.lst [.str s.nm]) = G1 at u1 h1 ⊢
      refine ⟨_, rfl, a, _, _, _, rfl, rfl, SqT.of (u1 _ _ ha1), at1, by show 1 ≤ sizeLine; decide, fun q2 n2 => ?_⟩
      have u2 := same_new (o := .tup [.str s.nm]) n2
      have h2 : upd G1 q2 (.tup [.str s.nm]) q2 = some (.tup [.str s.nm]) := upd_same
      have h12 := u2 _ _ h1
      have u02 := u1.trans u2
      generalize upd G1 q2 (.tup [.str s.nm]) = G2 at u02 h12 h2 ⊢
      clear u1 u2 h1
      refine ⟨_, rfl, _, rfl, a, _, _, _, rfl, rfl, SqT.of (u02 _ _ ha1), at1, _, rfl, _, _, rfl, rfl, ⟨by decide, by decide, by decide⟩, by show 16 ≤ sizeLine; decide, fun O nO => ?_⟩
      dsimp only [gName, List.set]
      have plO : Pls G2 [V.non, .int 5, .str "", .str "abcde", .str "A", .str "a1", .str "a b", .ref q1, .ref q2, .bl true, .str x0, .str s.nm, .int 0, .int (-101), .int 101, .int (10 ^ Int.toNat 29)] := by
        intro v m
        rcases List.mem_cons.mp m with rfl | m; · exact .non
        rcases List.mem_cons.mp m with rfl | m; · exact .int _
        rcases List.mem_cons.mp m with rfl | m; · exact .str _ (by decide +kernel)
        rcases List.mem_cons.mp m with rfl | m; · exact .str _ (by decide +kernel)
        rcases List.mem_cons.mp m with rfl | m; · exact .str _ (by decide +kernel)
        rcases List.mem_cons.mp m with rfl | m; · exact .str _ (by decide +kernel)
        rcases List.mem_cons.mp m with rfl | m; · exact .str _ (by decide +kernel)
        rcases List.mem_cons.mp m with rfl | m; · exact .lst h12
        rcases List.mem_cons.mp m with rfl | m; · exact .tup h2
        rcases List.mem_cons.mp m with rfl | m; · exact .bl _
        rcases List.mem_cons.mp m with rfl | m; · exact .str _ (by omega)
        rcases List.mem_cons.mp m with rfl | m; · exact .str _ (by omega)
        rcases List.mem_cons.mp m with rfl | m; · exact .int _
        rcases List.mem_cons.mp m with rfl | m; · exact .int _
        rcases List.mem_cons.mp m with rfl | m; · exact .int _
        rw [List.mem_singleton.mp m]; exact .int _
      obtain ⟨O1, hO1⟩ : ∃ O1 : List V, O1 = [V.non, .int 5, .str "", .str "abcde", .str "A", .str "a1", .str "a b", .ref q1, .ref q2, .bl true, .str x0, .str s.nm, .int 0, .int (-101), .int 101, .int (10 ^ Int.toNat 29)] := ⟨_, rfl⟩
      rw [← hO1] at plO ⊢
      have lO1 : O1.length = 16 := by rw [hO1]; rfl
      clear hO1
      have u3 := same_new (o := .lst O1) nO
      have h3 : upd G2 O (.lst O1) O = some (.lst O1) := upd_same
      have pl3 := plO.up u3
      have u03 := u02.trans u3
      generalize upd G2 O (.lst O1) = G3 at u03 h3 pl3 ⊢
      clear plO u3 h12 h2 u02
      refine ⟨_, rfl, _, rfl, by show 6 ≤ sizeLine; decide, fun q3 n3 => ?_⟩
      have plC : Pls G3 [V.str "1", .bl false, .int 1, .str "free", .int (-100), .int 100] := by
        intro v m
        rcases List.mem_cons.mp m with rfl | m; · exact .str _ (by decide +kernel)
        rcases List.mem_cons.mp m with rfl | m; · exact .bl _
        rcases List.mem_cons.mp m with rfl | m; · exact .int _
        rcases List.mem_cons.mp m with rfl | m; · exact .str _ (by decide +kernel)
        rcases List.mem_cons.mp m with rfl | m; · exact .int _
        rw [List.mem_singleton.mp m]; exact .int _
      have u4 := same_new (o := .lst [V.str "1", .bl false, .int 1, .str "free", .int (-100), .int 100]) n3
      refine ⟨O, q3, _, _, rfl, rfl, u4 _ _ h3, upd_same, by rw [lO1, sizeLine_eq]; show 16 + 6 ≤ _; decide, fun q4 n4 => ?_⟩
      have u5 := same_new (o := .lst (O1 ++ [V.str "1", .bl false, .int 1, .str "free", .int (-100), .int 100])) n4
      have pl5 : Pls G3 (O1 ++ [V.str "1", .bl false, .int 1, .str "free", .int (-100), .int 100]) := fun v m => (List.mem_append.mp m).elim (pl3 v) (plC v)
      have h5 : upd (upd G3 q3 (.lst [V.str "1", .bl false, .int 1, .str "free", .int (-100), .int 100])) q4 (.lst (O1 ++ [V.str "1", .bl false, .int 1, .str "free", .int (-100), .int 100])) q4 = some (.lst (O1 ++ [V.str "1", .bl false, .int 1, .str "free", .int (-100), .int 100])) := upd_same
      have u45 := u4.trans u5
      generalize upd (upd G3 q3 (.lst [V.str "1", .bl false, .int 1, .str "free", .int (-100), .int 100])) q4 (.lst (O1 ++ [V.str "1", .bl false, .int 1, .str "free", .int (-100), .int 100])) = G5 at u45 h5 ⊢
      have lO2 : (O1 ++ [V.str "1", .bl false, .int 1, .str "free", .int (-100), .int 100]).length = 22 := by rw [List.length_append, lO1]; rfl
      generalize O1 ++ [V.str "1", .bl false, .int 1, .str "free", .int (-100), .int 100] = O2 at lO2 h5 pl5 ⊢
      have pl6 := pl5.up u45
      have u05 := u03.trans u45
      have ht5 := u05 _ _ bk1.t
      refine ⟨_, rfl, _, rfl, B.t, _, rfl, SqL.of ht5, fun q5 n5 => ?_⟩
      have u6 := same_new (o := .lst (cutV (c.names.map V.str) none (some 2))) n5
      have lc := cutV_len (c.names.map V.str) none (some 2)
      rw [List.length_map] at lc
      refine ⟨q4, q5, _, _, rfl, rfl, u6 _ _ h5, upd_same, by rw [lO2, sizeLine_eq]; omega, fun q6 n6 => ?_⟩
      have u7 := same_new (o := .lst (O2 ++ cutV (c.names.map V.str) none (some 2))) n6
      have qp : q6 ≠ p ∧ q6 ≠ l := st1.ne (none_up (u05.trans u6) n6)
      have nq6 : H q6 = none := bt_none (b1.trans (Bt.same (u05.trans u6))) (st1.same (u05.trans u6)) n6
      have pl7 : Pls G5 (O2 ++ cutV (c.names.map V.str) none (some 2)) := fun v m => (List.mem_append.mp m).elim (pl6 v) fun m => by
        obtain ⟨x, hx, rfl⟩ := List.mem_map.mp (cutV_mem m)
        rw [ck.nm] at hx
        obtain ⟨s2, m2, rfl⟩ := List.mem_map.mp hx
        have := nm_len (ck.st s2 m2).2
        exact .str _ (by omega)
      have h7 : upd (upd G5 q5 (.lst (cutV (c.names.map V.str) none (some 2)))) q6 (.lst (O2 ++ cutV (c.names.map V.str) none (some 2))) q6 = some (.lst (O2 ++ cutV (c.names.map V.str) none (some 2))) := upd_same
      have u07 := u05.trans (u6.trans u7)
      have pl8 := pl7.up (u6.trans u7)
      generalize upd (upd G5 q5 (.lst (cutV (c.names.map V.str) none (some 2)))) q6 (.lst (O2 ++ cutV (c.names.map V.str) none (some 2))) = G7 at u07 h7 pl8 ⊢
      have lO : 0 < (O2 ++ cutV (c.names.map V.str) none (some 2)).length ∧ (O2 ++ cutV (c.names.map V.str) none (some 2)).length ≤ 1000 := by rw [List.length_append, lO2]; omega
      generalize O2 ++ cutV (c.names.map V.str) none (some 2) = OV at lO h7 pl8 ⊢
      clear u6 u7 pl7 pl6 pl5 u05 ht5 h5 lO2 pl3 h3 u03 lO1 plC u4 u5 u45
      dsimp only [gName, List.set]
      have st7 := st1.same u07
      have b7 := b1.trans (Bt.same u07)
      have ha7 := u07 _ _ ha1
      refine ⟨_, rfl, p, l, 8, rfl, st7, by decide, by decide, fun z G8 z0 z1 st8 b8 => ?_⟩
      have apn := st7.ne_of ha7
      have ha8 := b8 _ _ apn ha7
      dsimp only [gName, List.set]
      refine ⟨_, rfl, a, _, rfl, .inr (SqT.of ha8), fun R nR => ?_⟩
      have Rp := st8.ne nR
      have h8 := b8 _ _ qp.1 h7
      have qR : q6 ≠ R := fun e => by rw [e] at h8; rw [h8] at nR; cases nR
      have lv : 0 < s.vals.length ∧ s.vals.length ≤ 8 := by
        unfold Stp.vals Stp.mem
        rw [List.length_cons, List.length_cons, List.length_append, List.length_map, List.length_map, rt.shp.el, rt.shp.nu]
        have := ar4 s.w
        have := arN2 s.w
        omega
      have nRH : H R = none := bt_none (b7.trans b8) st8 nR
      have S : SpS H (upd G8 R (.lst s.vals)) p l q6 R OV s.vals := ⟨st8.up nR, (b7.trans b8).set nRH, (upd_ne qR).trans h8, upd_same, (pl8.bt b8 st7).up (same_new nR), (rt.short ck).pls, lO, ⟨lv.1, by omega⟩, qR, ⟨qp.1, Rp.1, qp.2, Rp.2⟩, nRH⟩
      have apH : a ≠ p := st.ne_of ha
      generalize upd G8 R (.lst s.vals) = G9 at S ⊢
      clear st8 b8 ha8 h8 st7 b7 ha7 h7 pl8 u07 nR
      have fin : ∀ (F : Hp) (RW : List V), SpS H F p l q6 R OV RW → ∀ t, F t = none → Q (.ref t) (upd F t (.tup RW)) := fun F RW S t nt => go _ _ (S.st.up nt) (S.b.trans (Bt.same (same_new nt))) (OddV.tup upd_same (S.pR.up (same_new nt)) (by have := S.lR; omega))
      dsimp only [gName, List.set]
      refine ⟨_, rfl, rfl, _, rfl, ite2 (fun _ => ?_) (fun _ => ?_)⟩
      · refine ⟨_, rfl, .inl ⟨rfl, _, SqL.of S.hR⟩, odd_draw S rfl rfl fun v F hv SF => ⟨R, _, _, rfl, rfl, SF.hR, by rw [sizeLine_eq]; omega, ?_⟩⟩
        have S2 := SF.set (RW := s.vals ++ [v]) hv (fun u m => (List.mem_append.mp m).elim .inr fun m => .inl (List.mem_singleton.mp m)) (by rw [List.length_append]; show 0 < _ + 1 ∧ _ + 1 ≤ 10; omega)
        exact ⟨_, rfl, .inl ⟨R, _, rfl, SqL.of S2.hR, fun t nt => fin _ _ S2 t nt⟩⟩
      refine ⟨_, rfl, rfl, _, rfl, ite2 (fun _ => ?_) (fun _ => ?_)⟩
      · refine ⟨_, rfl, _, rfl, _, rfl, R, _, rfl, .inl (SqL.of S.hR), p, l, _, rfl, S.st, by omega, by omega, fun z2 F z20 z21 stF bF => ?_⟩
        have SF := S.bt bF stF
        refine ⟨_, rfl, R, _, rfl, SqL.of SF.hR, fun q nq => .inl ⟨q, _, rfl, SqL.of upd_same, fun t nt => ?_⟩⟩
        have s9 := (same_new (o := .lst (cutV s.vals none (some z2))) nq).trans (same_new (o := .tup (cutV s.vals none (some z2))) nt)
        have lc := cutV_len s.vals none (some z2)
        exact go _ _ (SF.st.same s9) (SF.b.trans (Bt.same s9)) (OddV.tup upd_same (fun v m => ((SF.pR v (cutV_mem m)).up s9)) (by omega))
      refine ⟨_, rfl, rfl, _, rfl, ite2 (fun _ => ?_) (fun _ => ?_)⟩
      · have hA := S.b _ _ apH ha
        refine ⟨by show 0 ≤ sizeLine; decide, fun w1 m1 => ?_⟩
        have e1 : OddV (upd G9 w1 (.tup [])) (.ref w1) := OddV.tup upd_same (fun _ m => (nomatch m)) (by decide)
        have v1 := same_new (o := .tup []) m1
        generalize upd G9 w1 (.tup []) = F1 at e1 v1 ⊢
        refine ⟨by show 0 ≤ sizeLine; decide, fun w2 m2 => ?_⟩
        have e2 : OddV (upd F1 w2 (.lst [])) (.ref w2) := OddV.lst upd_same (fun _ m => (nomatch m)) (by decide)
        have v2 := same_new (o := .lst []) m2
        have e1 := e1.up v2
        have v02 := v1.trans v2
        generalize upd F1 w2 (.lst []) = F2 at e1 e2 v02 ⊢
        clear v1 v2 m1 m2
        refine ⟨by show 1 ≤ sizeLine; decide, fun w3 m3 => ?_⟩
        have e3 : OddV (upd F2 w3 (.tup [.non])) (.ref w3) := OddV.tup upd_same (fun v m => by rw [List.mem_singleton.mp m]; exact .non) (by decide)
        have v3 := same_new (o := .tup [.non]) m3
        have e1 := e1.up v3
        have e2 := e2.up v3
        have v03 := v02.trans v3
        generalize upd F2 w3 (.tup [.non]) = F3 at e1 e2 e3 v03 ⊢
        clear v02 v3 m3
        refine ⟨by show 1 ≤ sizeLine; decide, fun w4 m4 => ?_⟩
        have e4 : OddV (upd F3 w4 (.tup [.str "free"])) (.ref w4) := OddV.tup upd_same (fun v m => by rw [List.mem_singleton.mp m]; exact .str _ (by decide +kernel)) (by decide)
        have v4 := same_new (o := .tup [.str "free"]) m4
        have e1 := e1.up v4
        have e2 := e2.up v4
        have e3 := e3.up v4
        have v04 := v03.trans v4
        generalize upd F3 w4 (.tup [.str "free"]) = F4 at e1 e2 e3 e4 v04 ⊢
        clear v03 v4 m4
        refine ⟨_, rfl, a, _, _, _, rfl, rfl, SqT.of (v04 _ _ hA), at1, by show 2 ≤ sizeLine; decide, fun w5 m5 => ?_⟩
        have e5 : OddV (upd F4 w5 (.tup [.str "FREE", .str s.nm])) (.ref w5) := OddV.tup upd_same (fun v m => by
          rcases List.mem_cons.mp m with rfl | m
          · exact .str _ (by decide +kernel)
          · rw [List.mem_singleton.mp m]; exact .str _ (by omega)) (by show 2 < 1000000; decide)
        have v5 := same_new (o := .tup [.str "FREE", .str s.nm]) m5
        have e1 := e1.up v5
        have e2 := e2.up v5
        have e3 := e3.up v5
        have e4 := e4.up v5
        have v05 := v04.trans v5
        generalize upd F4 w5 (.tup [.str "FREE", .str s.nm]) = F5 at e1 e2 e3 e4 e5 v05 ⊢
        clear v04 v5 m5
        refine ⟨by show 1 ≤ sizeLine; decide, fun w6 m6 => ?_⟩
        have v6 := same_new (o := .lst [.str "free"]) m6
        have h6 : upd F5 w6 (.lst [.str "free"]) w6 = some (.lst [.str "free"]) := upd_same
        have e1 := e1.up v6
        have e2 := e2.up v6
        have e3 := e3.up v6
        have e4 := e4.up v6
        have e5 := e5.up v6
        have v06 := v05.trans v6
        generalize upd F5 w6 (.lst [.str "free"]) = F6 at e1 e2 e3 e4 e5 v06 h6 ⊢
        clear v05 v6 m6
        refine ⟨_, rfl, a, _, _, _, rfl, rfl, SqT.of (v06 _ _ hA), at1, by show 2 ≤ sizeLine; decide, fun w7 m7 => ?_⟩
        have e7 : OddV (upd F6 w7 (.lst [.ref w6, .str s.nm])) (.ref w7) := OddV.lst upd_same (fun v m => by
          rcases List.mem_cons.mp m with rfl | m
          · exact .lst (same_new m7 _ _ h6)
          · rw [List.mem_singleton.mp m]; exact .str _ (by omega)) (by show 2 < 1000000; decide)
        have v7 := same_new (o := .lst [.ref w6, .str s.nm]) m7
        have e1 := e1.up v7
        have e2 := e2.up v7
        have e3 := e3.up v7
        have e4 := e4.up v7
        have e5 := e5.up v7
        have v07 := v06.trans v7
        generalize upd F6 w7 (.lst [.ref w6, .str s.nm]) = F7 at e1 e2 e3 e4 e5 e7 v07 ⊢
        clear v06 v7 m7 h6
        refine ⟨_, rfl, by show 12 ≤ sizeLine; decide, fun W mW => ?_⟩
        have allO : ∀ v ∈ [V.non, .int 5, .str "free a", .str "ab", .ref w1, .ref w2, .bl true, .ref w3, .ref w4, .ref w5, .ref w7, .int (-1)], OddV F7 v := by
          intro v m
          rcases List.mem_cons.mp m with rfl | m; · exact .flat .non .non
          rcases List.mem_cons.mp m with rfl | m; · exact .flat (.int _) (.int _)
          rcases List.mem_cons.mp m with rfl | m; · exact .flat (.str _ (by decide +kernel)) (.str _)
          rcases List.mem_cons.mp m with rfl | m; · exact .flat (.str _ (by decide +kernel)) (.str _)
          rcases List.mem_cons.mp m with rfl | m; · exact e1
          rcases List.mem_cons.mp m with rfl | m; · exact e2
          rcases List.mem_cons.mp m with rfl | m; · exact .flat (.bl _) (.bl _)
          rcases List.mem_cons.mp m with rfl | m; · exact e3
          rcases List.mem_cons.mp m with rfl | m; · exact e4
          rcases List.mem_cons.mp m with rfl | m; · exact e5
          rcases List.mem_cons.mp m with rfl | m; · exact e7
          rw [List.mem_singleton.mp m]; exact .flat (.int _) (.int _)
        have st7 := S.st.same v07
        have Wp := st7.ne mW
        have b7 := S.b.trans (Bt.same v07)
        have v8 := same_new (o := .lst [V.non, .int 5, .str "free a", .str "ab", .ref w1, .ref w2, .bl true, .ref w3, .ref w4, .ref w5, .ref w7, .int (-1)]) mW
        refine ⟨_, rfl, _, rfl, _, rfl, W, _, rfl, .inl (SqL.of upd_same), p, l, _, rfl, st7.same v8, by show (0 : Int) < 12; decide, by show (12 : Int) ≤ _; decide, fun z2 F8 z20 z21 st8 b8 => ?_⟩
        have z21 : z2 < 12 := z21
        obtain ⟨n, rfl⟩ : ∃ n : Nat, z2 = n := ⟨z2.toNat, by omega⟩
        have ln : n < [V.non, .int 5, .str "free a", .str "ab", .ref w1, .ref w2, .bl true, .ref w3, .ref w4, .ref w5, .ref w7, .int (-1)].length := by show n < 12; omega
        exact ⟨W, _, _, _, rfl, rfl, SqL.of (b8 _ _ Wp.1 upd_same), atI_nat (List.getElem?_eq_getElem ln), go _ _ st8 ((b7.trans (Bt.same v8)).trans b8) (((allO _ (List.getElem_mem ln)).up v8).bt b8 (st7.same v8))⟩
      · refine row_store S rfl rfl rfl fun F RW S2 => ?_
        refine ⟨fun σ F => ∃ RW, σ = [some (.ref p), some (.ref B.b), some (.ref a), some (.ref B.t), some (.str x0), some (.ref q6), some (.int z), some (.ref R), none, none] ∧ SpS H F p l q6 R OV RW, ?_, ?_⟩
        · refine ⟨_, rfl, _, _, rfl, rfl, _, rfl, ite2 (fun _ => ?_) (fun _ => ⟨_, rfl, S2⟩)⟩
          exact row_store S2 rfl rfl rfl fun F RW S3 => ⟨_, rfl, S3⟩
        · rintro σ F ⟨RW, rfl, S3⟩
          refine ⟨_, rfl, .inl ⟨R, _, rfl, SqL.of S3.hR, fun t nt => ⟨_, rfl, by show 2 ≤ sizeLine; decide, fun u nu => ⟨_, rfl, p, l, 2, rfl, (S3.st.up nt).up nu, by decide, by decide, fun z2 F2 z20 z21 st2 b2 => ?_⟩⟩⟩⟩
          have up := ((S3.st.up (o := .tup RW) nt).ne nu).1
          have tp := (S3.st.ne nt).1
          have s4 := (same_new (o := .tup RW) nt).trans (same_new (o := .tup [.ref t, .ref R]) nu)
          have S4 := (S3.bt (Bt.same s4) (S3.st.same s4)).bt b2 st2
          have ht : F2 t = some (.tup RW) := b2 _ _ tp (same_new nu _ _ upd_same)
          have hu : F2 u = some (.tup [.ref t, .ref R]) := b2 _ _ up upd_same
          have lR := S4.lR
          obtain ⟨n, rfl⟩ : ∃ n : Nat, z2 = n := ⟨z2.toNat, by omega⟩
          match n, z21 with
          | 0, _ => exact ⟨u, _, _, .ref t, rfl, rfl, SqT.of hu, atI_nat rfl, go _ _ st2 S4.b (OddV.tup ht S4.pR (by omega))⟩
          | 1, _ => exact ⟨u, _, _, .ref R, rfl, rfl, SqT.of hu, atI_nat rfl, go _ _ st2 S4.b (OddV.lst S4.hR S4.pR (by omega))⟩
          | n + 2, h => omega
end
end CN

set_option Elab.async false
set_option linter.all false
set_option maxRecDepth 100000
set_option maxHeartbeats 8000000
set_option autoImplicit false
set_option pp.maxSteps 600
/-! A step is asked; the construction tells what the book says. -/
namespace CN
open PySem L2 TL K1D K2P
open K4 (isNm lets)
abbrev sAsk : Stmt := K2P.top 73
abbrev sRight : Stmt := K2P.top 74
/-- told so: (word, what) -/
def Told2 (H : Hp) (Q : VK) (x : Str) (v : V) : Prop := ∀ (a : Addr) (G : Hp), Same H G → G a = some (.tup [.str x, v]) → Q (.ref a) G
def spLAsk (C : Addr) : Sp := fun vs H Q _ => ∃ (o : Own) (c : Cst) (x : V), vs = [.ref o.p, x] ∧ ConAt C H o c ∧ Cok c ∧
  ((NoSeq x ∧ Told2 H Q "step" (.int 0)) ∨ (∃ us, SeqV H x us ∧ Pls H us ∧ us.length < 1000000 ∧ ∃ k : Nat, chkAt c.names us = some k ∧ Told2 H Q "step" (.int (k : Nat))) ∨
   (∃ (s : Stp) (word : Str), SeqV H x s.vals ∧ Right c.names s ∧ ((c.steps.length = 12 ∧ word = "points") ∨ (c.steps.length < 12 ∧ 8 < (c.unk ++ newUnk s).length ∧ word = "unknowns")) ∧ Told2 H Q "many" (.str word)) ∨
   (∃ s : Stp, SeqV H x s.vals ∧ AddGood c s ∧ ∀ (a u : Addr) (G : Hp), ConAt C G ⟨o.p, o.s, u, o.t⟩ (c.add s) → Chg [o.p, o.s, o.t] H G → H u = none → G a = some (.tup [.str "fine", .non]) → Q (.ref a) G))
/-- of the error classes -/
structure AskK (K : PySem.W.Frag) (B CV CS CI CM : Addr) : Prop where
  ss : PySem.W.exmOne K (.ref CS) (.ref CS) = some true
  ms : PySem.W.exmOne K (.ref CM) (.ref CS) = some false
  mm : PySem.W.exmOne K (.ref CM) (.ref CM) = some true
  sb : PySem.W.kitOne K (.ref CS) (.ref B) = some true
  mb : PySem.W.kitOne K (.ref CM) (.ref B) = some true
  sv : PySem.W.kitOne K (.ref CS) (.ref CV) = some false
  sm : PySem.W.kitOne K (.ref CS) (.ref CM) = some false
  mv : PySem.W.kitOne K (.ref CM) (.ref CV) = some false
  mi : PySem.W.kitOne K (.ref CM) (.ref CI) = some false
theorem kit_two {K : PySem.W.Frag} {C X Y : Addr} (h1 : PySem.W.kitOne K (.ref C) (.ref X) = some false) (h2 : PySem.W.kitOne K (.ref C) (.ref Y) = some false) : PySem.W.kitAny K (.ref C) [.ref X, .ref Y] = some false :=
  kitAny_cons (b := false) h1 (fun _ => kitAny_cons (b := false) h2 (fun _ => rfl) fun e => (nomatch e)) fun e => (nomatch e)
section
variable {P : Program} {w : World} {K : PySem.W.Frag} {mg : Str → Option Value} {base : Heap} {B C CV CS CI CM fA fV fS fI fM fQ fSt fPo fUn : Addr} {dA dV dS dI dM dQ dSt dPo dUn : FuncData}
theorem scAsk : FnScope ["figure", "step", "error"] ["figure", "step"] (defScope sAsk) := ⟨rfl, rfl, rfl, by decide +kernel, rfl, by decide +kernel, by decide +kernel⟩
theorem scRight : FnScope ["figure", "book", "due", "step"] ["figure", "book"] (defScope sRight) := ⟨rfl, rfl, rfl, by decide +kernel, rfl, by decide +kernel, by decide +kernel⟩
theorem same_xd {H G : Hp} {dd : Addr} {o : HO} (s : Same H G) (n : G dd = none) : Same H (upd G dd o) := s.trans (same_new n)
theorem ok_lask {f : Addr} {fd : FuncData} (F : Fun K "_law_asked" "_law_asked" sAsk f fd) (T : LChkTxt mg) (CT : ConTxt K mg C) (gB : mg "FigureError" = some (.ref B)) (BV : ErrT P w K mg base "BadValue" "at" B CV fV dV) (BS : ErrT P w K mg base "BadStep" "at" B CS fS dS) (IM : ErrT P w K mg base "Impossible" "name" B CI fI dI) (TM : ErrT P w K mg base "TooMany" "word" B CM fM dM) (KT : AskK K B CV CS CI CM)
    (UA : MethX P w K mg base C 10 "add" ["self", "step"] (spAdd C CS CI CM) fA dA) : FnOk P w K mg base CX0 11 f fd ["figure", "step"] (spLAsk C) := by
  refine F.ok scAsk (fun vs H Q E h => ?_) (fun cdv Ar outer s H vs Q E hr h => ?_)
  · obtain ⟨o, c, x, rfl, _⟩ := h
    rfl
  · obtain ⟨o, c, x, rfl, hc, ck, h⟩ := h
    refine ⟨_, (pss_cons (ps_try_each (i := 2) (tb := fun W => tRet (tTup (tCons (tC (.str "fine")) (tCons (tMethE C "add" (spAdd C CS CI CM) (WE W) (tVar 0) (tCons (tVar 1) tNil)) tNil)))) rfl rfl scAsk.nd rfl rfl takes0N
      (fun W pn xe tk _ => (pss_one (ps_ret (by exact (pe_tup (pa_cons pe_str (pa_cons (pe_methE (pv 0) CT.cl UA.m UA.ok (hr.mono (by decide)) UA.b (fun σ => L2N.passAt tk σ) (pa_cons (pv 1) pa_nil)) pa_nil)))))))
      (.cons ⟨rfl, by decide, .inl BS.gC⟩ (fun a oe cls d pn hz hf => (pss_one (by exact (ps_if (PW.pt (pw_and (pt_val (pe_callB (call_errIs hz.zc hf) (by rfl) T.isinst (by decide +kernel) (pa_cons (pv 2) (pa_cons (pe_glob (by rfl) gB (v := .ref B) (by exact rfl)) pa_nil)))) (pw_and1 (pt_not (pt_val (pe_callB (call_errIsT hz.zc hf) (by rfl) T.isinst (by decide +kernel) (pa_cons (pv 2) (pa_cons (pe_tup (pa_cons (pe_glob (by rfl) BV.gC (v := .ref CV) (by exact rfl)) (pa_cons (pe_glob (by rfl) TM.gC (v := .ref CM) (by exact rfl)) pa_nil))) pa_nil)))))))) (pss_one (ps_ret (pe_tup (pa_cons pe_str (pa_cons (pe_xf BS.xf BS.no hz.zc hf (pv 2)) pa_nil))))) pss_nil))))
      (.cons ⟨rfl, by decide, .inl TM.gC⟩ (fun a oe cls d pn hz hf => (pss_one (by exact (ps_if (PW.pt (pw_and (pt_val (pe_callB (call_errIs hz.zc hf) (by rfl) T.isinst (by decide +kernel) (pa_cons (pv 2) (pa_cons (pe_glob (by rfl) gB (v := .ref B) (by exact rfl)) pa_nil)))) (pw_and1 (pt_not (pt_val (pe_callB (call_errIsT hz.zc hf) (by rfl) T.isinst (by decide +kernel) (pa_cons (pv 2) (pa_cons (pe_tup (pa_cons (pe_glob (by rfl) BV.gC (v := .ref CV) (by exact rfl)) (pa_cons (pe_glob (by rfl) IM.gC (v := .ref CI) (by exact rfl)) pa_nil))) pa_nil)))))))) (pss_one (ps_ret (pe_tup (pa_cons pe_str (pa_cons (pe_xf TM.xf TM.no hz.zc hf (pv 2)) pa_nil))))) pss_nil)))) .nil)))
      (pss_one (ps_ret (pe_tup (pa_cons pe_str (pa_cons pe_int pa_nil)))))), ?_⟩
    have key : ∀ {W : XK} {R : VK}, (∀ v, Told2 H Q "step" v → Raises CS "at" v H W) → (∀ v, Told2 H Q "many" v → Raises CM "word" v H W) →
        (∀ (s : Stp) (G : Hp) (u : Addr), ConAt C G ⟨o.p, o.s, u, o.t⟩ (c.add s) → Chg [o.p, o.s, o.t] H G → H u = none → (∀ (a u : Addr) (G : Hp), ConAt C G ⟨o.p, o.s, u, o.t⟩ (c.add s) → Chg [o.p, o.s, o.t] H G → H u = none → G a = some (.tup [.str "fine", .non]) → Q (.ref a) G) → R .non G) →
        spAdd C CS CI CM [.ref o.p, x] H R W := fun {W R} r1 r2 fine => by
      refine ⟨o, c, x, rfl, hc, ck, ?_⟩
      rcases h with ⟨ns, q⟩ | ⟨us, sq, pl, lu, k, hk, q⟩ | ⟨s, word, sq, rt, hw, q⟩ | ⟨s, sq, g, q⟩
      · exact .inl ⟨ns, r1 _ q⟩
      · exact .inr ⟨us, sq, pl, lu, fun j e => (by rw [hk] at e; cases e; exact r1 _ q), fun e => (by rw [hk] at e; cases e)⟩
      · refine .inr ⟨s.vals, sq, (rt.short ck).pls, rt.shp.len8, fun j e => (by rw [rt.chk] at e; cases e), fun _ => ⟨s, rfl, rt, fun l => ?_, fun l u => ?_, fun l u => ?_⟩⟩
        · rcases hw with ⟨_, rfl⟩ | ⟨l2, _⟩
          · exact r2 _ q
          · omega
        · rcases hw with ⟨l2, _⟩ | ⟨_, _, rfl⟩
          · omega
          · exact r2 _ q
        · rcases hw with ⟨l2, _⟩ | ⟨_, u2, _⟩ <;> omega
      · exact .inr ⟨s.vals, sq, (g.rt.short ck).pls, g.rt.shp.len8, fun j e => (by rw [g.rt.chk] at e; cases e), fun _ => ⟨s, rfl, g.rt, fun l => (by have := g.len; omega), fun l u => (by have := g.ul; omega), fun _ _ => ⟨g.fine, .inr ⟨g.nz, fun G u h1 h2 h3 => fine s G u h1 h2 h3 q⟩⟩⟩⟩
    obtain ⟨dx, hob⟩ := hc.ob
    have lm : (cF o).lookup ("add" : Str) = none := f_none (by decide +kernel) (by decide +kernel) (by decide +kernel)
    refine ⟨_, rfl, o.p, dx, _, rfl, hob, lm, _, rfl, ?_⟩
    refine key (fun v q G dd sG nd => ?_) (fun v q G dd sG nd => ?_) (fun s G u h1 h2 h3 q => ?_)
    · refine ⟨true, KT.ss, fun _ a na => ?_, fun z => (nomatch z)⟩
      have hx : upd G dd (.xd [("at", v)]) dd = some (.xd [("at", v)]) := upd_same
      have s2 := same_xd (o := .xd [("at", v)]) sG nd
      generalize upd G dd (.xd [("at", v)]) = G2 at hx s2 ⊢
      refine ⟨_, rfl, CS, .ref B, .ref B, true, rfl, BS.ask, rfl, .own _, fun d' e => by cases e; exact ⟨_, hx⟩, KT.sb, true, rfl, ifY rfl ?_⟩
      refine ⟨_, rfl, by show 2 ≤ sizeLine; decide, fun tp nt => ⟨CS, tp, _, [.ref CV, .ref CM], false, rfl, BS.ask, rfl, upd_same, .cons (.own _) (.cons (.own _) .nil), fun d' e => by cases e; exact ⟨_, same_new nt _ _ hx⟩, kit_two KT.sv KT.sm, false, rfl, ifY rfl ?_⟩⟩
      exact ⟨_, rfl, rfl, rfl, dd, _, v, rfl, same_new nt _ _ hx, rfl, by show 2 ≤ sizeLine; decide, fun p np => q p _ (s2.trans ((same_new nt).trans (same_new np))) upd_same⟩
    · refine ⟨false, KT.ms, fun z => (nomatch z), fun _ => ⟨true, KT.mm, fun _ a na => ?_, fun z => (nomatch z)⟩⟩
      have hx : upd G dd (.xd [("word", v)]) dd = some (.xd [("word", v)]) := upd_same
      have s2 := same_xd (o := .xd [("word", v)]) sG nd
      generalize upd G dd (.xd [("word", v)]) = G2 at hx s2 ⊢
      refine ⟨_, rfl, CM, .ref B, .ref B, true, rfl, TM.ask, rfl, .own _, fun d' e => by cases e; exact ⟨_, hx⟩, KT.mb, true, rfl, ifY rfl ?_⟩
      refine ⟨_, rfl, by show 2 ≤ sizeLine; decide, fun tp nt => ⟨CM, tp, _, [.ref CV, .ref CI], false, rfl, TM.ask, rfl, upd_same, .cons (.own _) (.cons (.own _) .nil), fun d' e => by cases e; exact ⟨_, same_new nt _ _ hx⟩, kit_two KT.mv KT.mi, false, rfl, ifY rfl ?_⟩⟩
      exact ⟨_, rfl, rfl, rfl, dd, _, v, rfl, same_new nt _ _ hx, rfl, by show 2 ≤ sizeLine; decide, fun p np => q p _ (s2.trans ((same_new nt).trans (same_new np))) upd_same⟩
    · refine ⟨by show 2 ≤ sizeLine; decide, fun p np => ?_⟩
      have s4 := same_new (o := .tup [.str "fine", .non]) np
      exact q p u _ (h1.up s4) (fun b y e m => s4 _ _ (h2 b y e m)) h3 upd_same
/-! ### the book and the construction -/
theorem alike_vals {H : Hp} {a b : Addr} {s : Stp} (ha : H a = some (.tup s.vals)) (hb : H b = some (.tup s.vals)) (l : s.vals.length ≤ 100) : Alike H 1 (.ref a) (.ref b) := by
  refine .tup ha hb rfl (by rw [sizeLine_eq]; omega) fun i x y hx hy => ?_
  rw [hx] at hy
  cases hy
  have m := List.mem_of_getElem? hx
  rcases List.mem_cons.mp m with rfl | m
  · exact .str 0 _
  rcases List.mem_cons.mp m with rfl | m
  · exact .str 0 _
  rcases List.mem_append.mp m with m | m
  · obtain ⟨z, _, rfl⟩ := List.mem_map.mp m
    exact .str 0 _
  · obtain ⟨z, _, rfl⟩ := List.mem_map.mp m
    exact .int 0 _
theorem vals_len {s : Stp} (h : s.Shp) : s.vals.length ≤ 100 := by
  unfold Stp.vals Stp.mem
  rw [List.length_cons, List.length_cons, List.length_append, List.length_map, List.length_map, h.el, h.nu]
  have := ar4 s.w
  have := arN2 s.w
  omega
theorem alike_steps {H : Hp} {p q : Addr} {xs ys : List V} {ss : List Stp} (hp : H p = some (.tup xs)) (hq : H q = some (.tup ys)) (px : Paired (StepAt H) xs ss) (py : Paired (StepAt H) ys ss) (l : ss.length ≤ 1000) (sh : ∀ s ∈ ss, s.Shp) : Alike H 2 (.ref p) (.ref q) := by
  have l1 := Paired.length px
  have l2 := Paired.length py
  refine .tup hp hq (by omega) (by rw [sizeLine_eq]; omega) fun i x y hx hy => ?_
  have li := (List.getElem?_eq_some_iff.mp hx).1
  have hs := List.getElem?_eq_getElem (show i < ss.length by omega)
  obtain ⟨a, rfl, ha⟩ := pair_get px hx hs
  obtain ⟨b, rfl, hb⟩ := pair_get py hy hs
  exact alike_vals ha hb (vals_len (sh _ (List.getElem_mem _)))
theorem alike_strs {H : Hp} {p q : Addr} {l : List Str} (hp : H p = some (.tup (l.map V.str))) (hq : H q = some (.tup (l.map V.str))) (h : l.length ≤ 1000) : Alike H 2 (.ref p) (.ref q) := by
  refine .tup hp hq rfl (by rw [List.length_map, sizeLine_eq]; omega) fun i x y hx hy => ?_
  rw [hx] at hy
  cases hy
  obtain ⟨z, _, rfl⟩ := List.mem_map.mp (List.mem_of_getElem? hx)
  exact .str 1 _
theorem unk_x (nm : Str) : ("x_" : Str) ++ nm = unkN nm 120 := ext_tl (by rw [unkN_tl, tl_append]; rfl)
theorem unk_y (nm : Str) : ("y_" : Str) ++ nm = unkN nm 121 := ext_tl (by rw [unkN_tl, tl_append]; rfl)
theorem unk_t (nm : Str) : ("t_" : Str) ++ nm = unkN nm 116 := ext_tl (by rw [unkN_tl, tl_append]; rfl)
theorem two_fit {x y : Str} (h : x.length = 2) (l : y.length ≤ 1000) : x.length + y.length ≤ sizeLine := by rw [h, sizeLine_eq]; omega
theorem new_free {s : Stp} (h : s.w = .free) : newUnk s = [unkN s.nm 120, unkN s.nm 121] := by
  unfold newUnk
  rw [h, show (unkT .free).cps.toList = [120, 121] by decide +kernel]
  rfl
theorem new_slide {s : Stp} (h : s.w = .slide) : newUnk s = [unkN s.nm 116] := by
  unfold newUnk
  rw [h, show (unkT .slide).cps.toList = [116] by decide +kernel]
  rfl
theorem new_other {s : Stp} (h : s.w ≠ .free) (h2 : s.w ≠ .slide) : newUnk s = [] := by
  refine new_none ?_
  cases q : s.w <;> first | rfl | exact absurd q h | exact absurd q h2
theorem wdS_free (d : Wd) : decide (V.str (wdS d) = V.str "free") = decide (d = .free) := by cases d <;> decide +kernel
def spLRight (C : Addr) : Sp := fun vs H Q _ => ∃ (o : Own) (B : Bk) (c : Cst) (ws fs : List (Str × Nat)), vs = [.ref o.p, .ref B.b] ∧ ConAt C H o c ∧ BookAt H B c ws fs ∧ Cok c ∧ ∀ G, Same H G → Q (.bl true) G
theorem ok_lright {f : Addr} {fd : FuncData} (F : Fun K "_law_state_right" "_law_state_right" sRight f fd) (T : LChkTxt mg) (CT : ConTxt K mg C) (US : MethT P w K mg base CX0 C 1 "steps" ["self"] (spSteps C) fSt dSt) (UP : MethT P w K mg base CX0 C 1 "points" ["self"] (spPoints C) fPo dPo) (UU : MethT P w K mg base CX0 C 1 "unknowns" ["self"] (spUnks C) fUn dUn)
    (UQ : CallT P w K mg base CX0 3 "_law_same" ["actual", "due"] (spSame 2) fQ dQ) : FnOk P w K mg base CX0 4 f fd ["figure", "book"] (spLRight C) := by
  refine F.ok scRight (fun vs H Q E h => ?_) (fun cdv Ar outer s H vs Q E hr h => ?_)
  · obtain ⟨o, B, c, ws, fs, rfl, _⟩ := h
    rfl
  · obtain ⟨o, B, c, ws, fs, rfl, hc, bk, ck, go⟩ := h
    refine ⟨_, (pss_cons (ps_if (PW.pt (pw_or (pt_not (pt_val (pe_call UQ.ok (hr.mono (by decide)) rfl UQ.g UQ.k UQ.b .nil pass0 (pa_cons (pe_meth0 (pv 0) CT.cl US.m US.ok (hr.mono (by decide)) US.b .nil pass0) (pa_cons (pe_tupleOf (by rfl) T.tuple (pe_dget (hu1 hr) (pv 1) pe_str (fun _ _ => rfl))) pa_nil))))) (pw_or1 (pt_not (pt_val (pe_call UQ.ok (hr.mono (by decide)) rfl UQ.g UQ.k UQ.b .nil pass0 (pa_cons (pe_meth0 (pv 0) CT.cl UP.m UP.ok (hr.mono (by decide)) UP.b .nil pass0) (pa_cons (pe_tupleOf (by rfl) T.tuple (pe_dget (hu1 hr) (pv 1) pe_str (fun _ _ => rfl))) pa_nil)))))))) (pss_one (ps_ret pe_bl)) pss_nil)
      (pss_cons (ps_set (i := 2) scRight.nd rfl (Or.inl rfl) (pe_lst pa_nil))
      (pss_cons (ps_for PassesOwn.never rfl (pi_list (pe_dget (hu1 hr) (pv 1) pe_str (fun _ _ => rfl))) (pg_name (i := 3) scRight.nd rfl (Or.inl rfl)) (C8.pss_cut (ps_if (pt_cmpR op_eq (pe_ix ix_tup (pv 3) pe_int (fun _ _ => rfl)) pe_str (nomark _)) (pss_one (ps_set (i := 2) scRight.nd rfl (Or.inl rfl) (pe_op op_cat (pv 2) (pe_lst (pa_cons (pe_op op_add_str pe_str (pe_ix ix_tup (pv 3) pe_int (fun _ _ => rfl))) (pa_cons (pe_op op_add_str pe_str (pe_ix ix_tup (pv 3) pe_int (fun _ _ => rfl))) pa_nil)))))) pss_nil) (pss_one (ps_if (pt_cmpR op_eq (pe_ix ix_tup (pv 3) pe_int (fun _ _ => rfl)) pe_str (nomark _)) (pss_one (ps_expr (pe_bm PySem.F.plainAttrs_list PySem.F.slot_list_append PySem.F.type_list_append mt_append (pv 2) (pa_cons (pe_op op_add_str pe_str (pe_ix ix_tup (pv 3) pe_int (fun _ _ => rfl))) pa_nil)))) pss_nil))))
      (pss_one (ps_ret (pe_call UQ.ok (hr.mono (by decide)) rfl UQ.g UQ.k UQ.b .nil pass0 (pa_cons (pe_meth0 (pv 0) CT.cl UU.m UU.ok (hr.mono (by decide)) UU.b .nil pass0) (pa_cons (pe_tupleOf (by rfl) T.tuple (pv 2)) pa_nil)))))))), ?_⟩
    obtain ⟨dx, hob⟩ := hc.ob
    have lS : (cF o).lookup ("steps" : Str) = none := f_none (by decide +kernel) (by decide +kernel) (by decide +kernel)
    have lP : (cF o).lookup ("points" : Str) = none := f_none (by decide +kernel) (by decide +kernel) (by decide +kernel)
    have lU : (cF o).lookup ("unknowns" : Str) = none := f_none (by decide +kernel) (by decide +kernel) (by decide +kernel)
    have l12 := ck.len
    have sh : ∀ s ∈ c.steps, s.Shp := fun s m => (ck.st s m).1
    obtain ⟨us, hS, hus⟩ := bk.s
    refine ⟨_, rfl, o.p, dx, _, rfl, hob, lS, o, c, rfl, hc, fun p1 svs G1 s1 np1 hp1 hsp1 => ?_⟩
    refine ⟨_, rfl, B.b, _, rfl, bkS (s1 _ _ bk.b), .inl ⟨B.s, us, rfl, SqL.of (s1 _ _ hS), fun q1 nq1 => ?_⟩⟩
    have s2 := same_new (o := .tup us) nq1
    refine ⟨_, _, rfl, alike_steps (s2 _ _ hp1) upd_same (pair_imp (fun _ _ q => StepAt.up q s2) hsp1) (pair_imp (fun _ _ q => StepAt.up q (s1.trans s2)) hus) (by omega) sh, fun G2 s3 => ⟨_, rfl, ifN rfl ?_⟩⟩
    have s4 := s1.trans (s2.trans s3)
    generalize upd G1 q1 (.tup us) = G1' at *
    clear s1 s2 s3 hp1 hsp1 np1 nq1
    have hc2 := hc.up s4
    obtain ⟨dx2, hob2⟩ := hc2.ob
    refine ⟨_, rfl, o.p, dx2, _, rfl, hob2, lP, o, c, rfl, hc2, fun p2 G3 s5 np2 hp2 => ?_⟩
    refine ⟨_, rfl, B.b, _, rfl, bkT ((s4.trans s5) _ _ bk.b), .inl ⟨B.t, _, rfl, SqL.of ((s4.trans s5) _ _ bk.t), fun q2 nq2 => ?_⟩⟩
    have s6 := same_new (o := .tup (c.names.map V.str)) nq2
    refine ⟨_, _, rfl, alike_strs (s6 _ _ hp2) upd_same (by rw [ck.nm, List.length_map]; omega), fun G4 s7 => ⟨_, rfl, ifN rfl ?_⟩⟩
    have s8 := s4.trans (s5.trans (s6.trans s7))
    clear s4 s5 s6 s7 hp2 np2 nq2 hc2 hob2
    refine ⟨by show 0 ≤ sizeLine; decide, fun D nD => ?_⟩
    have s9 := s8.trans (same_new (o := .lst []) nD)
    have nDH := none_up s8 nD
    have hS9 := s9 _ _ hS
    refine ⟨_, rfl, B.b, _, rfl, bkS (s9 _ _ bk.b), B.s, rfl, ⟨_, SqL.of hS9⟩, ?_⟩
    refine for_it (walk_list (K := K) (a := B.s) (xs := us)) (fun i σ G => ∃ (D : Addr) (u3 : Option V), σ = [some (.ref o.p), some (.ref B.b), some (.ref D), u3] ∧ Same H G ∧ H D = none ∧ G D = some (.lst (((c.steps.take i).flatMap newUnk).map V.str)))
      ⟨_, _, rfl, s9, nDH, upd_same⟩ (fun i σ G _ ⟨_, _, _, sG, _, _⟩ => SqL.of (sG _ _ hS)) (fun i v σ F0 F hi ⟨D, u3, hσ, sF, nD, hD⟩ ⟨e, hv⟩ => ?_) (fun σ G ⟨D, u3, hσ, sG, nD, hD⟩ => ?_)
    · subst hσ e
      have hv : us[i]? = some v := hv
      have lus := Paired.length hus
      have hsi := List.getElem?_eq_getElem (show i < c.steps.length by omega)
      obtain ⟨a, rfl, ha⟩ := pair_get hus hv hsi
      have tk : c.steps.take (i + 1) = c.steps.take i ++ [c.steps[i]] := K2P.take_snoc hsi
      have ms : c.steps[i] ∈ c.steps := List.getElem_mem _
      generalize c.steps[i] = s at ha tk ms hsi
      have nm4 := nm_len (ck.st s ms).2
      have at0 : atI s.vals ((0 : Nat) : Int) = some (V.str (wdS s.w)) := atI_nat rfl
      have at1 : atI s.vals ((1 : Nat) : Int) = some (V.str s.nm) := atI_nat rfl
      have lun : ((c.steps.take i).flatMap newUnk).length ≤ 8 := by
        have h1 := ck.ul
        rw [ck.un] at h1
        have h2 : ((c.steps.take i).flatMap newUnk).length ≤ (c.steps.flatMap newUnk).length := by
          conv => rhs; rw [← List.take_append_drop i c.steps, List.flatMap_append, List.length_append]
          omega
        omega
      have haF := sF _ _ ha
      have fm : ((c.steps.take (i + 1)).flatMap newUnk) = (c.steps.take i).flatMap newUnk ++ newUnk s := by rw [tk, List.flatMap_append]; simp
      rw [fm]
      generalize (c.steps.take i).flatMap newUnk = un at lun hD
      dsimp only [gName, List.set]
      refine ⟨fun σ G => ∃ (D : Addr), σ = [some (.ref o.p), some (.ref B.b), some (.ref D), some (.ref a)] ∧ Same H G ∧ H D = none ∧ G D = some (.lst ((un ++ if s.w = .free then newUnk s else []).map V.str)), ?_, ?_⟩
      · refine ⟨_, rfl, a, _, _, _, rfl, rfl, SqT.of haF, at0, rfl, _, rfl, ?_⟩
        rw [wdS_free]
        by_cases hf : s.w = .free
        · rw [decide_eq_true hf]
          refine ifY rfl ⟨_, rfl, _, rfl, a, _, _, _, rfl, rfl, SqT.of haF, at1, _, _, rfl, rfl, two_fit (by decide +kernel) (by omega), _, rfl, a, _, _, _, rfl, rfl, SqT.of haF, at1, _, _, rfl, rfl, two_fit (by decide +kernel) (by omega), by show 2 ≤ sizeLine; decide, fun q nq => ?_⟩
          have s1 := same_new (o := .lst [.str ("x_" ++ s.nm), .str ("y_" ++ s.nm)]) nq
          refine ⟨D, q, _, _, rfl, rfl, s1 _ _ hD, upd_same, by rw [List.length_map, sizeLine_eq]; show _ + 2 ≤ _; omega, fun q2 nq2 => ?_⟩
          have s2 := sF.trans s1
          refine ⟨q2, rfl, s2.trans (same_new nq2), none_up s2 nq2, ?_⟩
          rw [upd_same, if_pos hf, new_free hf, ← unk_x, ← unk_y, List.map_append]
          rfl
        · rw [decide_eq_false hf]
          exact ifN rfl ⟨D, rfl, sF, nD, by rw [if_neg hf, List.append_nil]; exact hD⟩
      · rintro σ G ⟨D, rfl, sG, nD, hD⟩
        have haG := sG _ _ ha
        refine ⟨_, rfl, a, _, _, _, rfl, rfl, SqT.of haG, at0, rfl, _, rfl, ?_⟩
        rw [wdS_slide]
        by_cases hs : s.w = .slide
        · have hf : s.w ≠ .free := by rw [hs]; decide
          rw [decide_eq_true hs]
          rw [if_neg hf, List.append_nil] at hD
          refine ifY rfl ⟨_, rfl, .inl ⟨rfl, _, SqL.of hD⟩, _, rfl, a, _, _, _, rfl, rfl, SqT.of haG, at1, _, _, rfl, rfl, two_fit (by decide +kernel) (by omega), D, _, _, rfl, rfl, hD, by rw [List.length_map, sizeLine_eq]; omega, ?_⟩
          refine ⟨D, _, rfl, fun b x q => (upd_ne (ne_of_none q nD)).trans (sG b x q), nD, ?_⟩
          rw [upd_same, new_slide hs, ← unk_t, List.map_append]
          rfl
        · rw [decide_eq_false hs]
          refine ifN rfl ⟨D, _, rfl, sG, nD, ?_⟩
          rw [hD]
          by_cases hf : s.w = .free
          · rw [if_pos hf]
          · rw [if_neg hf, new_other hf hs]
    · subst hσ
      have lus := Paired.length hus
      rw [lus, List.take_length, ← ck.un] at hD
      have hcG := hc.up sG
      obtain ⟨dx2, hob2⟩ := hcG.ob
      refine ⟨_, rfl, o.p, dx2, _, rfl, hob2, lU, o, c, rfl, hcG, fun p2 G3 s5 np2 hp2 => ?_⟩
      refine ⟨_, rfl, .inl ⟨D, _, rfl, SqL.of (s5 _ _ hD), fun q2 nq2 => ?_⟩⟩
      have s6 := same_new (o := .tup (c.unk.map V.str)) nq2
      have ul := ck.ul
      exact ⟨_, _, rfl, alike_strs (s6 _ _ hp2) upd_same (by omega), fun G4 s7 => go G4 (sG.trans (s5.trans (s6.trans s7)))⟩
end
end CN

set_option Elab.async false
set_option linter.all false
set_option maxRecDepth 100000
set_option maxHeartbeats 8000000
set_option autoImplicit false
set_option pp.maxSteps 600
/-! A spoilt step is refused; one too many; a good one is taken. -/
namespace CN
open PySem L2 TL K1D K2P
open K4 (isNm lets)
abbrev sRef : Stmt := K2P.top 77
abbrev sFull : Stmt := K2P.top 78
abbrev sAdded : Stmt := K2P.top 79
def spLRef (C : Addr) : Sp := fun vs H Q _ => ∃ (p l : Addr) (o : Own) (B : Bk) (c : Cst) (ws fs : List (Str × Nat)) (nm : Str), vs = [.ref p, .ref o.p, .ref B.b, .str nm] ∧ Wld C H p l o B c ws fs ∧ Inv c ws fs ∧ isNm nm = true ∧ nm ∉ c.names ∧
  ∀ G, StL G p l → Bt p H G → Q (.bl true) G
def spLFull (C : Addr) : Sp := fun vs H Q _ => ∃ (p l : Addr) (o : Own) (B : Bk) (c : Cst) (ws fs : List (Str × Nat)) (nm : Str), vs = [.ref p, .ref o.p, .ref B.b, .str nm] ∧ Wld C H p l o B c ws fs ∧ Inv c ws fs ∧ isNm nm = true ∧ nm ∉ c.names ∧ c.names ≠ [] ∧
  ∀ G, Same H G → Q (.bl true) G
def spLAdded (C : Addr) : Sp := fun vs H Q _ => ∃ (p l : Addr) (o : Own) (B : Bk) (c : Cst) (ws fs : List (Str × Nat)) (nm : Str), vs = [.ref p, .ref o.p, .ref B.b, .str nm] ∧ Wld C H p l o B c ws fs ∧ Inv c ws fs ∧ isNm nm = true ∧ nm ∉ c.names ∧ c.steps.length < 12 ∧
  ∀ (s : Stp) (u : Addr) (ws2 fs2 : List (Str × Nat)) (G : Hp), s.nm = nm → Wld C G p l ⟨o.p, o.s, u, o.t⟩ B (c.add s) ws2 fs2 → Inv (c.add s) ws2 fs2 → (∀ b x, H b = some x → b ∉ [p, o.p, o.s, o.t, B.b, B.s, B.t, B.f, B.w] → G b = some x) → Q (.bl true) G
/-! ### what is altered in the book -/
theorem ConAt.chgW {C : Addr} {D : List Addr} {H G : Hp} {o : Own} {c : Cst} (h : ConAt C H o c) (g : Chg D H G) (nt : ∀ d ∈ D, ∀ xs, H d ≠ some (.tup xs)) (nw : ∀ e ∈ c.tri, ∀ px, px = e.2.x ∨ px = e.2.y ∨ px = e.2.w → ∀ v, TabE H v px → ∀ d, v = .ref d → d ∉ D) (n : o.p ∉ D ∧ o.s ∉ D ∧ o.u ∉ D ∧ o.t ∉ D) : ConAt C G o c := by
  obtain ⟨⟨dx, h0⟩, ⟨vs, h1, h2⟩, h3, ⟨kvs, h4, h5⟩, ne⟩ := h
  refine ⟨⟨dx, g _ _ h0 n.1⟩, ⟨vs, g _ _ h1 n.2.1, pair_imp (fun _ _ ⟨a, e, q⟩ => ⟨a, e, g _ _ q fun m => nt a m _ q⟩) h2⟩, g _ _ h3 n.2.2.1, ⟨kvs, g _ _ h4 n.2.2.2, ?_⟩, ne⟩
  have key : ∀ {kvs : List (Key × V)} {tri : List (Str × P3)}, TriAt H kvs tri → (∀ e ∈ tri, ∀ px, px = e.2.x ∨ px = e.2.y ∨ px = e.2.w → ∀ v, TabE H v px → ∀ d, v = .ref d → d ∉ D) → TriAt G kvs tri := by
    intro kvs tri q
    induction q with
    | nil => exact fun _ => .nil
    | @cons a b l1 l2 f r ih =>
      intro nw
      refine .cons ⟨f.1, ?_⟩ (ih fun e m => nw e (List.mem_cons_of_mem _ m))
      obtain ⟨tt, u0, u1, u2, e, q0, q1, q2, q3⟩ := f.2
      have k := nw b List.mem_cons_self
      exact ⟨tt, u0, u1, u2, e, g _ _ q0 fun m => nt tt m _ q0, q1.off g (k _ (.inl rfl) _ q1), q2.off g (k _ (.inr (.inl rfl)) _ q2), q3.off g (k _ (.inr (.inr rfl)) _ q3)⟩
  exact key h5 nw
theorem tab_lst {H : Hp} {d : Addr} {us : List V} (h : H d = some (.lst us)) : ∀ v e, TabE H v e → v ≠ .ref d := fun v e ⟨a, T, e1, ⟨h1, _⟩, _⟩ z => by
  rw [e1] at z
  cases z
  rw [h] at h1
  cases h1
/-- what stands while the book is altered -/
structure Adm (C : Addr) (H F : Hp) (p l : Addr) (o : Own) (B : Bk) (c : Cst) (us : List V) (ss : List Stp) (D9 : List Addr) : Prop where
  st : StL F p l
  con : ConAt C F o c
  pus : Paired (StepAt F) us ss
  fr : ∀ b x, H b = some x → b ∉ D9 → F b = some x
theorem Adm.upd {C : Addr} {H F : Hp} {p l d : Addr} {o : Own} {B : Bk} {c : Cst} {us : List V} {ss : List Stp} {D9 : List Addr} {x : HO} (h : Adm C H F p l o B c us ss D9) (ap : Apart p l o B) (hd : d = B.b ∨ d = B.s ∨ d = B.t ∨ d = B.f ∨ d = B.w) (nt : ∀ xs, F d ≠ some (.tup xs)) (nw : ∀ e ∈ c.tri, ∀ px, px = e.2.x ∨ px = e.2.y ∨ px = e.2.w → ∀ v, TabE F v px → v ≠ .ref d) (m : d ∈ D9) :
    Adm C H (upd F d x) p l o B c us ss D9 := by
  have g : Chg [d] F (L2.upd F d x) := fun b y q n => (upd_ne fun z => n (by rw [z]; exact List.mem_cons_self)).trans q
  have hp : d ≠ p ∧ d ≠ l := by
    rcases hd with rfl | rfl | rfl | rfl | rfl
    · exact ⟨ap.bp.1, ap.bl.1⟩
    · exact ⟨ap.bp.2.1, ap.bl.2.1⟩
    · exact ⟨ap.bp.2.2.1, ap.bl.2.2.1⟩
    · exact ⟨ap.bp.2.2.2.1, ap.bl.2.2.2.1⟩
    · exact ⟨ap.bp.2.2.2.2, ap.bl.2.2.2.2⟩
  have bo := ap.bo d hd
  refine ⟨h.st.set hp.1 hp.2, h.con.chgW g (fun d' m' => by rw [List.mem_singleton.mp m']; exact nt) (fun e me px hpx v tv d' e2 m' => ?_) ⟨one_not (Ne.symm bo.1), one_not (Ne.symm bo.2.1), one_not (Ne.symm bo.2.2.1), one_not (Ne.symm bo.2.2.2)⟩, pair_imp (fun _ _ ⟨a, e, q⟩ => ⟨a, e, (upd_ne fun z => nt _ (by rw [← z]; exact q)).trans q⟩) h.pus, fun b y q n => (upd_ne fun z => n (by rw [z]; exact m)).trans (h.fr b y q n)⟩
  rw [List.mem_singleton.mp m'] at e2
  exact nw e me px hpx v tv e2
theorem good_sp {C CS CI CM : Addr} {H : Hp} {o : Own} {c : Cst} {s : Stp} {x : V} {Q : VK} {E : XK} (g : AddGood c s) (sq : SeqV H x s.vals) (hc : ConAt C H o c) (ck : Cok c) (go : ∀ (G : Hp) (u : Addr), ConAt C G ⟨o.p, o.s, u, o.t⟩ (c.add s) → Chg [o.p, o.s, o.t] H G → H u = none → Q .non G) : spAdd C CS CI CM [.ref o.p, x] H Q E :=
  ⟨o, c, x, rfl, hc, ck, .inr ⟨s.vals, sq, (g.rt.short ck).pls, g.rt.shp.len8, fun j e => (by rw [g.rt.chk] at e; cases e), fun _ => ⟨s, rfl, g.rt, fun l => (by have := g.len; omega), fun l u => (by have := g.ul; omega), fun _ _ => ⟨g.fine, .inr ⟨g.nz, go⟩⟩⟩⟩⟩
theorem wtPut {H : Hp} {B : Bk} {ws : List (Str × Nat)} {nm : Str} {wt : Nat} (h : H B.w = some (.dK (wtK ws))) (n : nm ∉ ws.map (·.1)) (l : ws.length ≤ 1000) : DPut H B.w (.str nm) (.int (wt : Nat)) (upd H B.w (.dK (wtK (ws ++ [(nm, wt)])))) := by
  have g := DPut.k (k := eS nm) (v := .int (wt : Nat)) h (by unfold wtK; rw [List.length_map, sizeLine_eq]; omega)
  have e : putK (wtK ws) (eS nm) (.int (wt : Nat)) = wtK (ws ++ [(nm, wt)]) := by
    rw [putK_new _ (by rw [show eS nm = (Sum.inr nm : Key) from rfl, val_wt, wtOf_not n]; rfl)]
    unfold wtK
    rw [List.map_append]
    rfl
  rw [e] at g
  exact g
/-- the pieces of the book -/
structure Pcs (H : Hp) (B : Bk) (m : Int) (us : List V) (ns fl : List Str) (ws : List (Str × Nat)) : Prop where
  b : H B.b = some (.dK (bkK B m))
  s : H B.s = some (.lst us)
  t : H B.t = some (.lst (ns.map V.str))
  f : H B.f = some (.lst (fl.map V.str))
  w : H B.w = some (.dK (wtK ws))
section
variable {H : Hp} {p l : Addr} {o : Own} {B : Bk} {m : Int} {us : List V} {ns fl : List Str} {ws : List (Str × Nat)}
theorem Pcs.sS (h : Pcs H B m us ns fl ws) (ap : Apart p l o B) (us2 : List V) : Pcs (upd H B.s (.lst us2)) B m us2 ns fl ws :=
  have b := ap.bb
  ⟨(upd_ne b.1).trans h.b, upd_same, (upd_ne (Ne.symm b.2.2.2.2.1)).trans h.t, (upd_ne (Ne.symm b.2.2.2.2.2.1)).trans h.f, (upd_ne (Ne.symm b.2.2.2.2.2.2.1)).trans h.w⟩
theorem Pcs.sT (h : Pcs H B m us ns fl ws) (ap : Apart p l o B) (ns2 : List Str) : Pcs (upd H B.t (.lst (ns2.map V.str))) B m us ns2 fl ws :=
  have b := ap.bb
  ⟨(upd_ne b.2.1).trans h.b, (upd_ne b.2.2.2.2.1).trans h.s, upd_same, (upd_ne (Ne.symm b.2.2.2.2.2.2.2.1)).trans h.f, (upd_ne (Ne.symm b.2.2.2.2.2.2.2.2.1)).trans h.w⟩
theorem Pcs.sF (h : Pcs H B m us ns fl ws) (ap : Apart p l o B) (fl2 : List Str) : Pcs (upd H B.f (.lst (fl2.map V.str))) B m us ns fl2 ws :=
  have b := ap.bb
  ⟨(upd_ne b.2.2.1).trans h.b, (upd_ne b.2.2.2.2.2.1).trans h.s, (upd_ne b.2.2.2.2.2.2.2.1).trans h.t, upd_same, (upd_ne (Ne.symm b.2.2.2.2.2.2.2.2.2)).trans h.w⟩
theorem Pcs.sW (h : Pcs H B m us ns fl ws) (ap : Apart p l o B) (ws2 : List (Str × Nat)) : Pcs (upd H B.w (.dK (wtK ws2))) B m us ns fl ws2 :=
  have b := ap.bb
  ⟨(upd_ne b.2.2.2.1).trans h.b, (upd_ne b.2.2.2.2.2.2.1).trans h.s, (upd_ne b.2.2.2.2.2.2.2.2.1).trans h.t, (upd_ne b.2.2.2.2.2.2.2.2.2).trans h.f, upd_same⟩
theorem Pcs.sB (h : Pcs H B m us ns fl ws) (ap : Apart p l o B) (m2 : Int) : Pcs (upd H B.b (.dK (bkK B m2))) B m2 us ns fl ws :=
  have b := ap.bb
  ⟨upd_same, (upd_ne (Ne.symm b.1)).trans h.s, (upd_ne (Ne.symm b.2.1)).trans h.t, (upd_ne (Ne.symm b.2.2.1)).trans h.f, (upd_ne (Ne.symm b.2.2.2.1)).trans h.w⟩
end
section
variable {P : Program} {w : World} {K : PySem.W.Frag} {mg : Str → Option Value} {base : Heap} {C CS CI CM fS fP fF fQ fK fR fD fA : Addr} {dS dP dF dQ dK dR dD dA : FuncData}
theorem scRef : FnScope ["state", "figure", "book", "name", "spoilt", "at"] ["state", "figure", "book", "name"] (defScope sRef) := ⟨rfl, rfl, rfl, by decide +kernel, rfl, by decide +kernel, by decide +kernel⟩
theorem scFull : FnScope ["state", "figure", "book", "name", "there", "good", "step", "more", "due"] ["state", "figure", "book", "name"] (defScope sFull) := ⟨rfl, rfl, rfl, by decide +kernel, rfl, by decide +kernel, by decide +kernel⟩
theorem scAdded : FnScope ["state", "figure", "book", "name", "step", "weight", "handed"] ["state", "figure", "book", "name"] (defScope sAdded) := ⟨rfl, rfl, rfl, by decide +kernel, rfl, by decide +kernel, by decide +kernel⟩
theorem ok_lref {f : Addr} {fd : FuncData} (F : Fun K "_law_refused" "_law_refused" sRef f fd) (US : CallT P w K mg base CX0 4 "_law_step" ["state", "book", "name"] (spLStep false) fS dS) (UP : CallT P w K mg base CX0 2 "_law_spoilt" ["state", "book", "step"] spSpoilt fP dP) (UF : CallT P w K mg base CX0 3 "_law_fault" ["step", "there"] spLFault fF dF)
    (UQ : CallT P w K mg base CX0 3 "_law_same" ["actual", "due"] (spSame 2) fQ dQ) (UK : CallT P w K mg base CX0 11 "_law_asked" ["figure", "step"] (spLAsk C) fK dK) (UR : CallT P w K mg base CX0 4 "_law_state_right" ["figure", "book"] (spLRight C) fR dR) : FnOk P w K mg base CX0 12 f fd ["state", "figure", "book", "name"] (spLRef C) := by
  refine F.ok scRef (fun vs H Q E h => ?_) (fun cdv Ar outer s H vs Q E hr h => ?_)
  · obtain ⟨p, l, o, B, c, ws, fs, nm, rfl, _⟩ := h
    rfl
  · obtain ⟨p, l, o, B, c, ws, fs, nm, rfl, W, inv, hn, new, go⟩ := h
    refine ⟨_, (pss_cons (ps_set (i := 4) scRef.nd rfl (Or.inl rfl) (pe_call UP.ok (hr.mono (by decide)) rfl UP.g UP.k UP.b .nil pass0 (pa_cons (pv 0) (pa_cons (pv 2) (pa_cons (pe_ix ix_tup (pe_call US.ok (hr.mono (by decide)) rfl US.g US.k US.b .nil pass0 (pa_cons (pv 0) (pa_cons (pv 2) (pa_cons (pv 3) pa_nil)))) pe_int (fun _ _ => rfl)) pa_nil)))))
      (C8.pss_cut (ps_set (i := 5) scRef.nd rfl (Or.inl rfl) (pe_call UF.ok (hr.mono (by decide)) rfl UF.g UF.k UF.b .nil pass0 (pa_cons (pv 4) (pa_cons (pe_dget (hu1 hr) (pv 2) pe_str (fun _ _ => rfl)) pa_nil)))) (pss_cons (ps_if (pt_cmpR op_isN (pv 5) pe_non (nomark _)) (pss_one (ps_ret pe_bl)) pss_nil)
      (pss_one (ps_ret (pe_and (pe_call UQ.ok (hr.mono (by decide)) rfl UQ.g UQ.k UQ.b .nil pass0 (pa_cons (pe_call UK.ok (hr.mono (by decide)) rfl UK.g UK.k UK.b .nil pass0 (pa_cons (pv 1) (pa_cons (pv 4) pa_nil))) (pa_cons (pe_tup (pa_cons pe_str (pa_cons (pv 5) pa_nil))) pa_nil))) (pe_one (pe_call UR.ok (hr.mono (by decide)) rfl UR.g UR.k UR.b .nil pass0 (pa_cons (pv 1) (pa_cons (pv 2) pa_nil)))))))))), ?_⟩
    have bp := W.ap.bp
    refine ⟨_, rfl, _, rfl, _, rfl, _, rfl, _, rfl, p, l, B, c, ws, fs, nm, rfl, W.st, W.bk, bp, inv, hn, new, fun z => (nomatch z), fun s wt a t G1 st1 b1 ok ha ht => ?_⟩
    have W1 := W.bt b1 st1
    refine ⟨a, _, _, .ref t, rfl, rfl, SqT.of ha, (show atI _ ((0 : Nat) : Int) = _ from atI_nat rfl), p, l, B, c, ws, fs, t, s, rfl, st1, W1.bk, bp, inv.ck, ht, ok.rt, fun x G2 st2 b2 od => ?_⟩
    have W2 := W1.bt b2 st2
    have b02 := b1.trans b2
    clear ha ht ok
    dsimp only [gName]
    refine ⟨fun σ F => ∃ at_ : V, σ = [some (.ref p), some (.ref o.p), some (.ref B.b), some (.str nm), some x, some at_] ∧ Same G2 F ∧ (at_ = .non ∨ ∃ k : Nat, at_ = .int (k : Nat) ∧ ∀ (F2 : Hp) (R : VK), Same G2 F2 → Told2 F2 R "step" (.int (k : Nat)) → spLAsk C [.ref o.p, x] F2 R E0), ?_, ?_⟩
    · refine ⟨_, rfl, _, rfl, B.b, _, rfl, bkT W2.bk.b, x, B.t, c.names, rfl, W2.bk.t, ?_⟩
      rcases od.1.seq with ns | ⟨us, sq⟩
      · exact .inl ⟨ns, fun F sF => ⟨_, rfl, sF, .inr ⟨0, rfl, fun F2 R s2 q => ⟨o, c, x, rfl, W2.con.up s2, inv.ck, .inl ⟨ns, q⟩⟩⟩⟩⟩
      · obtain ⟨pl, ln⟩ := od.2 us sq
        exact .inr ⟨us, sq, pl, ln, fun k e F sF => ⟨_, rfl, sF, .inr ⟨k, rfl, fun F2 R s2 q => ⟨o, c, x, rfl, W2.con.up s2, inv.ck, .inr (.inl ⟨us, sq.up s2, pl.up s2, ln, k, e, q⟩)⟩⟩⟩, fun e F sF => ⟨_, rfl, sF, .inl rfl⟩⟩
    · rintro σ F ⟨at_, rfl, sF, h⟩
      rcases h with rfl | ⟨k, rfl, ask⟩
      · exact ⟨_, rfl, rfl, _, rfl, ifY (by decide) (go _ (st2.same sF) (b02.trans (Bt.same sF)))⟩
      · refine ⟨_, rfl, rfl, _, rfl, ifN (by rw [decide_eq_false (fun z => by cases z)]) ?_⟩
        refine ⟨_, rfl, _, rfl, ask _ _ sF fun a G3 s3 ha => ?_⟩
        refine ⟨_, rfl, by show 2 ≤ sizeLine; decide, fun t nt => ?_⟩
        have s4 := same_new (o := .tup [.str "step", .int (k : Nat)]) nt
        refine ⟨_, _, rfl, .tup (s4 _ _ ha) upd_same rfl (by show 2 ≤ sizeLine; decide) (fun i x y hx hy => ?_), fun G4 s5 => ⟨true, rfl, ifY rfl ?_⟩⟩
        · rw [hx] at hy
          cases hy
          have m := List.mem_of_getElem? hx
          rcases List.mem_cons.mp m with rfl | m
          · exact .str 1 _
          · rw [List.mem_singleton.mp m]; exact .int 1 _
        · have s6 := sF.trans (s3.trans (s4.trans s5))
          have W6 := W2.same s6
          exact ⟨_, rfl, _, rfl, o, B, c, ws, fs, rfl, W6.con, W6.bk, inv.ck, fun G5 s7 => go _ (W6.st.same s7) ((b02.trans (Bt.same s6)).trans (Bt.same s7))⟩
theorem ok_lfull {f : Addr} {fd : FuncData} (F : Fun K "_law_full" "_law_full" sFull f fd) (T : LChkTxt mg) (UQ : CallT P w K mg base CX0 3 "_law_same" ["actual", "due"] (spSame 2) fQ dQ) (UK : CallT P w K mg base CX0 11 "_law_asked" ["figure", "step"] (spLAsk C) fK dK) (UR : CallT P w K mg base CX0 4 "_law_state_right" ["figure", "book"] (spLRight C) fR dR) :
    FnOk P w K mg base CX0 12 f fd ["state", "figure", "book", "name"] (spLFull C) := by
  refine F.ok scFull (fun vs H Q E h => ?_) (fun cdv Ar outer s H vs Q E hr h => ?_)
  · obtain ⟨p, l, o, B, c, ws, fs, nm, rfl, _⟩ := h
    rfl
  · obtain ⟨p, l, o, B, c, ws, fs, nm, rfl, W, inv, hn, new, ne, go⟩ := h
    refine ⟨_, (pss_cons (ps_set (i := 4) scFull.nd rfl (Or.inl rfl) (pe_dget (hu1 hr) (pv 2) pe_str (fun _ _ => rfl)))
      (pss_cons (ps_set (i := 5) scFull.nd rfl (Or.inl rfl) (pe_lst (pa_cons (pe_tup (pa_cons pe_str (pa_cons (pv 3) pa_nil))) (pa_cons (pe_tup (pa_cons pe_str (pa_cons (pv 3) (pa_cons (pe_ix ix_list (pv 4) pe_int (fun _ _ => rfl)) (pa_cons (pe_ix ix_list (pv 4) pe_int (fun _ _ => rfl)) pa_nil))))) (pa_cons (pe_tup (pa_cons pe_str (pa_cons (pv 3) (pa_cons (pe_ix ix_list (pv 4) pe_int (fun _ _ => rfl)) (pa_cons (pe_ix ix_list (pv 4) pe_int (fun _ _ => rfl)) pa_nil))))) pa_nil)))))
      (pss_cons (ps_expr (pe_bm PySem.F.plainAttrs_list PySem.F.slot_list_append PySem.F.type_list_append mt_append (pv 5) (pa_cons (pe_tup (pa_cons pe_str (pa_cons (pv 3) (pa_cons (pe_ix ix_list (pv 4) pe_int (fun _ _ => rfl)) (pa_cons (pe_ix ix_list (pv 4) pe_int (fun _ _ => rfl)) (pa_cons pe_int (pa_cons pe_int pa_nil))))))) pa_nil)))
      (pss_cons (ps_for PassesOwn.never rfl (pi_list (pv 5)) (pg_name (i := 6) scFull.nd rfl (Or.inl rfl)) (pss_cons (ps_set (i := 7) scFull.nd rfl (Or.inl rfl) (pe_op op_add (pe_op op_mul pe_int (pe_callTy call_int1 (by rfl) T.int (by decide +kernel) (pa_cons (pe_cmpR op_eq (pe_ix ix_tup (pv 6) pe_int (fun _ _ => rfl)) pe_str (nomark _)) pa_nil))) (pe_callTy call_int1 (by rfl) T.int (by decide +kernel) (pa_cons (pe_cmpR op_eq (pe_ix ix_tup (pv 6) pe_int (fun _ _ => rfl)) pe_str (nomark _)) pa_nil))))
      (pss_cons (ps_set (i := 8) scFull.nd rfl (Or.inl rfl) (pe_tup (pa_cons pe_str (pa_cons pe_non pa_nil))))
      (C8.pss_cut (ps_if (pt_cmpR op_gt (pe_op op_add (pe_dget (hu1 hr) (pv 2) pe_str (fun _ _ => rfl)) (pv 7)) pe_int (nomark _)) (pss_one (ps_set (i := 8) scFull.nd rfl (Or.inl rfl) (pe_tup (pa_cons pe_str (pa_cons pe_str pa_nil))))) pss_nil) (C8.pss_cut (ps_if (pt_cmpR op_eq (pe_callB call_len_seq (by rfl) T.len PySem.boot_len (pa_cons (pv 4) pa_nil)) pe_int (nomark _)) (pss_one (ps_set (i := 8) scFull.nd rfl (Or.inl rfl) (pe_tup (pa_cons pe_str (pa_cons pe_str pa_nil))))) pss_nil) (pss_one (ps_if (PW.pt (pw_and (pt_cmpR op_eq (pe_ix ix_tup (pv 8) pe_int (fun _ _ => rfl)) pe_str (nomark _)) (pw_and1 (pt_not (pt_val (pe_call UQ.ok (hr.mono (by decide)) rfl UQ.g UQ.k UQ.b .nil pass0 (pa_cons (pe_call UK.ok (hr.mono (by decide)) rfl UK.g UK.k UK.b .nil pass0 (pa_cons (pv 1) (pa_cons (pv 6) pa_nil))) (pa_cons (pv 8) pa_nil)))))))) (pss_one (ps_ret pe_bl)) pss_nil)))))))
      (pss_one (ps_ret (pe_call UR.ok (hr.mono (by decide)) rfl UR.g UR.k UR.b .nil pass0 (pa_cons (pv 1) (pa_cons (pv 2) pa_nil))))))))), ?_⟩
    obtain ⟨x0, r0, hx0⟩ : ∃ x r, c.names = x :: r := by
      cases q : c.names with
      | nil => exact absurd q ne
      | cons x r => exact ⟨x, r, rfl⟩
    have m0 : x0 ∈ c.names := by rw [hx0]; exact List.mem_cons_self
    have ck := inv.ck
    have hT := W.bk.t
    have at0 : atI (c.names.map V.str) ((0 : Nat) : Int) = some (V.str x0) := atI_nat (by rw [hx0]; rfl)
    have rgt : ∀ s ∈ [(⟨.free, nm, [], []⟩ : Stp), ⟨.slide, nm, [x0, x0], []⟩, ⟨.over, nm, [x0, x0], []⟩, ⟨.part, nm, [x0, x0], [1, 1]⟩], Right c.names s := by
      intro s m
      rcases List.mem_cons.mp m with rfl | m
      · exact ⟨⟨rfl, rfl⟩, hn, new, fun _ h => (nomatch h), fun i k h => by cases i <;> cases h⟩
      rcases List.mem_cons.mp m with rfl | m
      · exact ⟨⟨rfl, rfl⟩, hn, new, fun x h => (by simp at h; rw [h]; exact m0), fun i k h => by cases i <;> cases h⟩
      rcases List.mem_cons.mp m with rfl | m
      · exact ⟨⟨rfl, rfl⟩, hn, new, fun x h => (by simp at h; rw [h]; exact m0), fun i k h => by cases i <;> cases h⟩
      · rw [List.mem_singleton.mp m]
        refine ⟨⟨rfl, rfl⟩, hn, new, fun x h => (by simp at h; rw [h]; exact m0), fun i k h => ?_⟩
        match i, h with
        | 0, h => cases h; show (-100 : Int) ≤ 1 ∧ _; decide
        | 1, h => cases h; show (1 : Int) ≤ 1 ∧ _; decide
    refine ⟨_, rfl, B.b, _, rfl, bkT W.bk.b, ?_⟩
    dsimp only [gName]
    refine st_re (σ2 := [some (.ref p), some (.ref o.p), some (.ref B.b), some (.str nm), some (.ref B.t), none, none, none, none]) rfl ?_
    refine ⟨_, rfl, by show 2 ≤ sizeLine; decide, fun t1 n1 => ?_⟩
    have s1 := same_new (o := .tup [.str "free", .str nm]) n1
    have h1 : StepAt (upd H t1 (.tup [.str "free", .str nm])) (.ref t1) ⟨.free, nm, [], []⟩ := ⟨t1, rfl, upd_same⟩
    generalize upd H t1 (.tup [.str "free", .str nm]) = G1 at s1 h1 ⊢
    refine ⟨_, rfl, _, rfl, B.t, _, _, _, rfl, rfl, SqL.of (s1 _ _ hT), at0, _, rfl, B.t, _, _, _, rfl, rfl, SqL.of (s1 _ _ hT), at0, by show 4 ≤ sizeLine; decide, fun t2 n2 => ?_⟩
    have u2 := same_new (o := .tup [.str "slide", .str nm, .str x0, .str x0]) n2
    have h2 : StepAt (upd G1 t2 (.tup [.str "slide", .str nm, .str x0, .str x0])) (.ref t2) ⟨.slide, nm, [x0, x0], []⟩ := ⟨t2, rfl, upd_same⟩
    have h1 := h1.up u2
    have s2 := s1.trans u2
    generalize upd G1 t2 (.tup [.str "slide", .str nm, .str x0, .str x0]) = G2 at s2 h1 h2 ⊢
    clear u2 s1
    refine ⟨_, rfl, _, rfl, B.t, _, _, _, rfl, rfl, SqL.of (s2 _ _ hT), at0, _, rfl, B.t, _, _, _, rfl, rfl, SqL.of (s2 _ _ hT), at0, by show 4 ≤ sizeLine; decide, fun t3 n3 => ?_⟩
    have u3 := same_new (o := .tup [.str "over", .str nm, .str x0, .str x0]) n3
    have h3 : StepAt (upd G2 t3 (.tup [.str "over", .str nm, .str x0, .str x0])) (.ref t3) ⟨.over, nm, [x0, x0], []⟩ := ⟨t3, rfl, upd_same⟩
    have h1 := h1.up u3
    have h2 := h2.up u3
    have s3 := s2.trans u3
    generalize upd G2 t3 (.tup [.str "over", .str nm, .str x0, .str x0]) = G3 at s3 h1 h2 h3 ⊢
    clear u3 s2
    refine ⟨by show 3 ≤ sizeLine; decide, fun D nD => ?_⟩
    have u4 := same_new (o := .lst [.ref t1, .ref t2, .ref t3]) nD
    have hD : upd G3 D (.lst [.ref t1, .ref t2, .ref t3]) D = some (.lst [.ref t1, .ref t2, .ref t3]) := upd_same
    have h1 := h1.up u4
    have h2 := h2.up u4
    have h3 := h3.up u4
    have nDH := none_up s3 nD
    have s4 := s3.trans u4
    generalize upd G3 D (.lst [.ref t1, .ref t2, .ref t3]) = G4 at s4 h1 h2 h3 hD ⊢
    clear u4 s3
    dsimp only [gName, List.set]
    refine ⟨_, rfl, .inl ⟨rfl, _, SqL.of hD⟩, _, rfl, _, rfl, B.t, _, _, _, rfl, rfl, SqL.of (s4 _ _ hT), at0, _, rfl, B.t, _, _, _, rfl, rfl, SqL.of (s4 _ _ hT), at0, by show 6 ≤ sizeLine; decide, fun t4 n4 => ?_⟩
    have u5 := same_new (o := .tup [.str "part", .str nm, .str x0, .str x0, .int 1, .int 1]) n4
    have t4D : t4 ≠ D := fun z => by rw [z, hD] at n4; cases n4
    refine ⟨D, _, _, rfl, rfl, u5 _ _ hD, by show 3 < sizeLine; decide, ?_⟩
    have ch : ∀ b x, G4 b = some x → b ≠ D → upd (upd G4 t4 (.tup [.str "part", .str nm, .str x0, .str x0, .int 1, .int 1])) D (.lst ([.ref t1, .ref t2, .ref t3] ++ [.ref t4])) b = some x := fun b x q n => (upd_ne n).trans (u5 _ _ q)
    have hD5 : upd (upd G4 t4 (.tup [.str "part", .str nm, .str x0, .str x0, .int 1, .int 1])) D (.lst ([.ref t1, .ref t2, .ref t3] ++ [.ref t4])) D = some (.lst [.ref t1, .ref t2, .ref t3, .ref t4]) := upd_same
    have h4 : StepAt (upd (upd G4 t4 (.tup [.str "part", .str nm, .str x0, .str x0, .int 1, .int 1])) D (.lst ([.ref t1, .ref t2, .ref t3] ++ [.ref t4]))) (.ref t4) ⟨.part, nm, [x0, x0], [1, 1]⟩ := ⟨t4, rfl, (upd_ne t4D).trans upd_same⟩
    generalize upd (upd G4 t4 (.tup [.str "part", .str nm, .str x0, .str x0, .int 1, .int 1])) D (.lst ([.ref t1, .ref t2, .ref t3] ++ [.ref t4])) = G5 at ch hD5 h4 ⊢
    have stD : ∀ {v s}, StepAt G4 v s → StepAt G5 v s := fun {v s} ⟨a, e, q⟩ => ⟨a, e, ch _ _ q fun z => by rw [z, hD] at q; cases q⟩
    have s5 : Same H G5 := fun b x q => ch _ _ (s4 _ _ q) (ne_of_none q nDH)
    obtain ⟨us, hus⟩ : ∃ us, us = [V.ref t1, .ref t2, .ref t3, .ref t4] := ⟨_, rfl⟩
    obtain ⟨gs, hgs⟩ : ∃ gs, gs = [(⟨.free, nm, [], []⟩ : Stp), ⟨.slide, nm, [x0, x0], []⟩, ⟨.over, nm, [x0, x0], []⟩, ⟨.part, nm, [x0, x0], [1, 1]⟩] := ⟨_, rfl⟩
    have pr : Paired (StepAt G5) us gs := by rw [hus, hgs]; exact .cons (stD h1) (.cons (stD h2) (.cons (stD h3) (.cons h4 .nil)))
    rw [← hus] at hD5
    rw [← hgs] at rgt
    clear hus hgs stD h1 h2 h3 h4 hD ch s4 u5 n1 n2 n3 n4
    have lug := Paired.length pr
    dsimp only [gName, List.set]
    refine ⟨_, rfl, D, rfl, ⟨_, SqL.of hD5⟩, ?_⟩
    refine for_it (walk_list (K := K) (a := D) (xs := us)) (fun i σ G => ∃ (u6 u7 u8 : Option V), σ = [some (.ref p), some (.ref o.p), some (.ref B.b), some (.str nm), some (.ref B.t), some (.ref D), u6, u7, u8] ∧ Same G5 G)
      ⟨_, _, _, rfl, Same.refl _⟩ (fun i σ G _ ⟨_, _, _, _, sG⟩ => SqL.of (sG _ _ hD5)) (fun i v σ F0 F hi ⟨u6, u7, u8, hσ, sF⟩ ⟨e, hv⟩ => ?_) (fun σ G ⟨u6, u7, u8, hσ, sG⟩ => ?_)
    · subst hσ e
      have hv : us[i]? = some v := hv
      have hsi := List.getElem?_eq_getElem (show i < gs.length by omega)
      obtain ⟨a, rfl, ha⟩ := pair_get pr hv hsi
      have rt := rgt _ (List.getElem_mem (show i < gs.length by omega))
      generalize gs[i] = s at ha rt hsi
      have ha := sF _ _ ha
      have s6 := s5.trans sF
      have a0 : atI s.vals ((0 : Nat) : Int) = some (V.str (wdS s.w)) := atI_nat rfl
      dsimp only [gName, List.set]
      refine ⟨_, rfl, a, _, _, _, rfl, rfl, SqT.of ha, a0, rfl, .inr ⟨_, rfl, _, _, rfl, rfl, .inl ⟨by decide, by decide⟩, _, rfl, a, _, _, _, rfl, rfl, SqT.of ha, a0, rfl, .inr ⟨_, rfl, _, _, rfl, rfl, ?_⟩⟩⟩
      rw [wdS_free, wdS_slide]
      have hm : (2 * (if decide (s.w = .free) = true then 1 else 0) + (if decide (s.w = .slide) = true then 1 else 0) : Int) = ((arU s.w : Nat) : Int) := by cases s.w <;> rfl
      dsimp only
      rw [hm]
      have un : (c.unk ++ newUnk s).length = c.unk.length + arU s.w := by rw [List.length_append, newUnk_len]
      dsimp only [gName, List.set]
      refine ⟨by show 2 ≤ sizeLine; decide, fun td ntd => ?_⟩
      have s7 := same_new (o := .tup [.str "fine", .non]) ntd
      have htd : upd F td (.tup [.str "fine", .non]) td = some (.tup [.str "fine", .non]) := upd_same
      generalize upd F td (.tup [.str "fine", .non]) = F1 at s7 htd ⊢
      dsimp only [gName, List.set]
      refine ⟨fun σ G => ∃ (td : Addr) (k : Str) (v : V), σ = [some (.ref p), some (.ref o.p), some (.ref B.b), some (.str nm), some (.ref B.t), some (.ref D), some (.ref a), some (.int (arU s.w : Nat)), some (.ref td)] ∧ Same F G ∧ G td = some (.tup [.str k, v]) ∧ ((k = "fine" ∧ ¬ 8 < c.unk.length + arU s.w) ∨ (k = "many" ∧ v = .str "unknowns" ∧ 8 < c.unk.length + arU s.w)), ?_, ?_⟩
      · have bk1 := W.bk.same (s6.trans s7)
        refine ⟨_, rfl, B.b, _, rfl, bkM bk1.b, _, rfl, _, _, rfl, rfl, _, _, rfl, rfl, _, rfl, ?_⟩
        by_cases h8 : 8 < c.unk.length + arU s.w
        · refine ifY (decide_eq_true (by omega)) ⟨by show 2 ≤ sizeLine; decide, fun t2 nt2 => ?_⟩
          exact ⟨t2, _, _, rfl, s7.trans (same_new nt2), upd_same, .inr ⟨rfl, rfl, h8⟩⟩
        · exact ifN (decide_eq_false (by omega)) ⟨td, _, _, rfl, s7, htd, .inl ⟨rfl, h8⟩⟩
      · clear htd td ntd
        rintro σ F2 ⟨td, k, v, rfl, s8, htd, hk⟩
        refine ⟨fun σ G => ∃ (td : Addr) (k : Str) (v : V), σ = [some (.ref p), some (.ref o.p), some (.ref B.b), some (.str nm), some (.ref B.t), some (.ref D), some (.ref a), some (.int (arU s.w : Nat)), some (.ref td)] ∧ Same F G ∧ G td = some (.tup [.str k, v]) ∧ (k = "fine" ∨ ∃ w : Str, k = "many" ∧ v = .str w ∧ ((c.steps.length = 12 ∧ w = "points") ∨ (c.steps.length < 12 ∧ 8 < (c.unk ++ newUnk s).length ∧ w = "unknowns"))), ?_, ?_⟩
        · refine ⟨_, rfl, B.t, _, rfl, .inl (SqL.of ((s6.trans s8) _ _ hT)), rfl, _, rfl, ?_⟩
          have ln : (c.names.map V.str).length = c.steps.length := by rw [List.length_map, ck.nm, List.length_map]
          rw [ln]
          have l12 := ck.len
          by_cases h12 : c.steps.length = 12
          · refine ifY (decide_eq_true (by rw [h12]; rfl)) ⟨by show 2 ≤ sizeLine; decide, fun t2 nt2 => ?_⟩
            exact ⟨t2, _, _, rfl, s8.trans (same_new nt2), upd_same, .inr ⟨_, rfl, rfl, .inl ⟨h12, rfl⟩⟩⟩
          · refine ifN (decide_eq_false fun z => h12 (by have := V.int.inj z; omega)) ⟨td, k, v, rfl, s8, htd, ?_⟩
            rcases hk with ⟨rfl, _⟩ | ⟨rfl, rfl, h8⟩
            · exact .inl rfl
            · exact .inr ⟨_, rfl, rfl, .inr ⟨by omega, by rw [un]; exact h8, rfl⟩⟩
        · clear htd hk td k v
          rintro σ F3 ⟨td, k, v, rfl, s9, htd, hk⟩
          refine ⟨_, rfl, td, _, _, _, rfl, rfl, SqT.of htd, (show atI _ ((0 : Nat) : Int) = some (V.str k) from atI_nat rfl), rfl, _, rfl, ?_⟩
          rcases hk with rfl | ⟨w, rfl, rfl, hw⟩
          · exact ifN (decide_eq_false (by decide +kernel)) (ifN rfl ⟨_, _, _, rfl, sF.trans s9⟩)
          · have s10 := s6.trans s9
            have W3 := W.same s10
            refine ifY (decide_eq_true rfl) ⟨_, rfl, _, rfl, o, c, .ref a, rfl, W3.con, ck, .inr (.inr (.inl ⟨s, w, ⟨a, rfl, .inr (s9 _ _ ha)⟩, rt, hw, fun a2 G6 s11 h6 => ?_⟩))⟩
            refine ⟨_, rfl, _, _, rfl, .tup h6 (s11 _ _ htd) rfl (by show 2 ≤ sizeLine; decide) (fun i x y hx hy => ?_), fun G7 s12 => ⟨true, rfl, ifN rfl ⟨_, _, _, rfl, sF.trans (s9.trans (s11.trans s12))⟩⟩⟩
            rw [hx] at hy
            cases hy
            have m := List.mem_of_getElem? hx
            rcases List.mem_cons.mp m with rfl | m
            · exact .str 1 _
            · rw [List.mem_singleton.mp m]; exact .str 1 _
    · subst hσ
      have s6 := s5.trans sG
      have W3 := W.same s6
      exact ⟨_, rfl, _, rfl, o, B, c, ws, fs, rfl, W3.con, W3.bk, ck, fun G6 s7 => go _ (s6.trans s7)⟩
theorem ok_ladded {f : Addr} {fd : FuncData} (F : Fun K "_law_added" "_law_added" sAdded f fd) (T : LChkTxt mg) (CT : ConTxt K mg C) (US : CallT P w K mg base CX0 4 "_law_step" ["state", "book", "name"] (spLStep false) fS dS) (UD : CallT P w K mg base CX0 1 "_law_draw" ["state", "many"] spDraw fD dD)
    (UA : MethX P w K mg base C 10 "add" ["self", "step"] (spAdd C CS CI CM) fA dA) (kA : KBn K dA ["self", "step"] 1 ["step"] (fun us ws => us ++ ws) (fun vs zs => vs ++ zs))
    (UQ : CallT P w K mg base CX0 3 "_law_same" ["actual", "due"] (spSame 2) fQ dQ) (UK : CallT P w K mg base CX0 11 "_law_asked" ["figure", "step"] (spLAsk C) fK dK) (UR : CallT P w K mg base CX0 4 "_law_state_right" ["figure", "book"] (spLRight C) fR dR) :
    FnOk P w K mg base CX0 12 f fd ["state", "figure", "book", "name"] (spLAdded C) := by
  refine F.ok scAdded (fun vs H Q E h => ?_) (fun cdv Ar outer s H vs Q E hr h => ?_)
  · obtain ⟨p, l, o, B, c, ws, fs, nm, rfl, _⟩ := h
    rfl
  · obtain ⟨p, l, o, B, c, ws, fs, nm, rfl, W, inv, hn, new, l12, go⟩ := h
    refine ⟨_, (pss_cons (ps_asg (pe_call US.ok (hr.mono (by decide)) rfl US.g US.k US.b .nil pass0 (pa_cons (pv 0) (pa_cons (pv 2) (pa_cons (pv 3) pa_nil)))) (pg_tup rfl (pgs_cons (pg_name (i := 4) scAdded.nd rfl (Or.inl rfl)) (pgs_cons (pg_name (i := 5) scAdded.nd rfl (Or.inl rfl)) pgs_nil))))
      (pss_cons (ps_set (i := 6) scAdded.nd rfl (Or.inl rfl) (pv 4))
      (C8.pss_cut (ps_if (pt_cmpR op_eq (pe_call UD.ok (hr.mono (by decide)) rfl UD.g UD.k UD.b .nil pass0 (pa_cons (pv 0) (pa_cons pe_int pa_nil))) pe_int (nomark _)) (pss_one (ps_set (i := 6) scAdded.nd rfl (Or.inl rfl) (pe_callTy call_list_of (by rfl) T.list (by decide +kernel) (pa_cons (pv 4) pa_nil)))) pss_nil) (C8.pss_cut (ps_if (pt_cmpR op_eq (pe_call UD.ok (hr.mono (by decide)) rfl UD.g UD.k UD.b .nil pass0 (pa_cons (pv 0) (pa_cons pe_int pa_nil))) pe_int (nomark _)) (pss_one (ps_if (pt_cmpR op_notN (pe_methKw (E := fun _ => E0) (pv 1) CT.cl UA.m UA.ok (hr.mono (by decide)) kA (fun σ => L2N.passAt takes0N σ) (pk_cons (pv 6) pk_nil)) pe_non (nomark _)) (pss_one (ps_ret pe_bl)) pss_nil)) (pss_one (ps_if (pt_not (pt_val (pe_call UQ.ok (hr.mono (by decide)) rfl UQ.g UQ.k UQ.b .nil pass0 (pa_cons (pe_call UK.ok (hr.mono (by decide)) rfl UK.g UK.k UK.b .nil pass0 (pa_cons (pv 1) (pa_cons (pv 6) pa_nil))) (pa_cons (pe_tup (pa_cons pe_str (pa_cons pe_non pa_nil))) pa_nil))))) (pss_one (ps_ret pe_bl)) pss_nil))) (C8.pss_cut (ps_if (pt_val (pe_callB call_isi (by rfl) T.isinst (by decide +kernel) (pa_cons (pv 6) (pa_cons (pe_bltn (v := .ty "list") (u := .type "list") (by rfl) T.list (by decide +kernel) (by exact rfl)) pa_nil)))) (pss_one (ps_asg pe_str (pg_sub (pv 6) pe_int set_list))) pss_nil) (pss_cons (ps_expr (pe_bm PySem.F.plainAttrs_list PySem.F.slot_list_append PySem.F.type_list_append mt_append (pe_dget (hu1 hr) (pv 2) pe_str (fun _ _ => rfl)) (pa_cons (pv 4) pa_nil)))
      (pss_cons (ps_expr (pe_bm PySem.F.plainAttrs_list PySem.F.slot_list_append PySem.F.type_list_append mt_append (pe_dget (hu1 hr) (pv 2) pe_str (fun _ _ => rfl)) (pa_cons (pv 3) pa_nil)))
      (pss_cons (ps_dput (hu1 hr) (pe_dget (hu1 hr) (pv 2) pe_str (fun _ _ => rfl)) (pv 3) (pv 5) rfl)
      (C8.pss_cut (ps_if (pt_cmpR op_eq (pe_ix ix_tup (pv 4) pe_int (fun _ _ => rfl)) pe_str (nomark _)) (pss_one (ps_expr (pe_bm PySem.F.plainAttrs_list PySem.F.slot_list_append PySem.F.type_list_append mt_append (pe_dget (hu1 hr) (pv 2) pe_str (fun _ _ => rfl)) (pa_cons (pv 3) pa_nil)))) pss_nil) (pss_cons (ps_dput (hu1 hr) (pv 2) pe_str (pe_op op_add (pe_op op_add (pe_dget (hu1 hr) (pv 2) pe_str (fun _ _ => rfl)) (pe_op op_mul pe_int (pe_callTy call_int1 (by rfl) T.int (by decide +kernel) (pa_cons (pe_cmpR op_eq (pe_ix ix_tup (pv 4) pe_int (fun _ _ => rfl)) pe_str (nomark _)) pa_nil)))) (pe_callTy call_int1 (by rfl) T.int (by decide +kernel) (pa_cons (pe_cmpR op_eq (pe_ix ix_tup (pv 4) pe_int (fun _ _ => rfl)) pe_str (nomark _)) pa_nil))) rfl)
      (pss_one (ps_ret (pe_call UR.ok (hr.mono (by decide)) rfl UR.g UR.k UR.b .nil pass0 (pa_cons (pv 1) (pa_cons (pv 2) pa_nil))))))))))))))), ?_⟩
    have bp := W.ap.bp
    have ck := inv.ck
    refine ⟨_, rfl, _, rfl, _, rfl, p, l, B, c, ws, fs, nm, rfl, W.st, W.bk, bp, inv, hn, new, fun z => (nomatch z), fun s wt a t G1 st1 b1 ok ha ht => ?_⟩
    refine ⟨a, _, rfl, SqT.of ha, rfl, _, _, rfl, _, _, rfl, rfl, ?_⟩
    dsimp only [gName, gNil]
    refine ⟨_, rfl, ?_⟩
    dsimp only [gName]
    refine st_re (σ2 := [some (.ref p), some (.ref o.p), some (.ref B.b), some (.str nm), some (.ref t), some (.int (wt : Nat)), some (.ref t)]) rfl ?_
    clear ha
    have good := ok.good l12
    refine ⟨fun σ F => ∃ hd : Addr, σ = [some (.ref p), some (.ref o.p), some (.ref B.b), some (.str nm), some (.ref t), some (.int (wt : Nat)), some (.ref hd)] ∧ StL F p l ∧ Bt p H F ∧ F t = some (.tup s.vals) ∧ (hd = t ∨ (F hd = some (.lst s.vals) ∧ H hd = none)), ?_, ?_⟩
    · refine ⟨_, rfl, p, l, 2, rfl, st1, by decide, by decide, fun z F z0 z1 stF bF => ⟨rfl, _, rfl, ite2 (fun _ => ?_) (fun _ => ⟨t, rfl, stF, b1.trans bF, bF _ _ (st1.ne_of ht) ht, .inl rfl⟩)⟩⟩
      have htF := bF _ _ (st1.ne_of ht) ht
      refine ⟨_, rfl, t, _, rfl, .inr (SqT.of htF), fun L nL => ⟨L, rfl, stF.up nL, (b1.trans bF).set (bt_none (b1.trans bF) stF nL), same_new nL _ _ htF, .inr ⟨upd_same, bt_none (b1.trans bF) stF nL⟩⟩⟩
    clear ht b1 st1
    rintro σ F ⟨hd, rfl, st1, b1, ht, hh⟩
    refine ⟨fun σ F => ∃ u : Addr, σ = [some (.ref p), some (.ref o.p), some (.ref B.b), some (.str nm), some (.ref t), some (.int (wt : Nat)), some (.ref hd)] ∧ StL F p l ∧ ConAt C F ⟨o.p, o.s, u, o.t⟩ (c.add s) ∧ BookAt F B c ws fs ∧ Apart p l ⟨o.p, o.s, u, o.t⟩ B ∧ F t = some (.tup s.vals) ∧ (∀ b x, H b = some x → b ∉ [p, o.p, o.s, o.t] → F b = some x) ∧ (hd = t ∨ (F hd = some (.lst s.vals) ∧ H hd = none ∧ hd ≠ u)), ?_, ?_⟩
    · refine ⟨_, rfl, p, l, 2, rfl, st1, by decide, by decide, fun z F2 z0 z1 st2 b2 => ⟨rfl, _, rfl, ?_⟩⟩
      have ht2 := b2 _ _ (st1.ne_of ht) ht
      have b02 := b1.trans b2
      have hh2 : hd = t ∨ (F2 hd = some (.lst s.vals) ∧ H hd = none) := hh.imp_right fun ⟨q, n⟩ => ⟨b2 _ _ (fun z => by obtain ⟨ns, b, v, f, m, n2, sd, h1, _⟩ := W.st; rw [z, h1] at n; cases n) q, n⟩
      have W2 := W.bt b02 st2
      have sq : SeqV F2 (.ref hd) s.vals := by
        rcases hh2 with rfl | ⟨q, _⟩
        · exact ⟨_, rfl, .inr ht2⟩
        · exact ⟨_, rfl, .inl q⟩
      clear hh ht b1 st1 b2
      have m2 : ∀ (G : Hp) (u : Addr), ConAt C G ⟨o.p, o.s, u, o.t⟩ (c.add s) → Chg [o.p, o.s, o.t] F2 G → F2 u = none → StL G p l ∧ ConAt C G ⟨o.p, o.s, u, o.t⟩ (c.add s) ∧ BookAt G B c ws fs ∧ Apart p l ⟨o.p, o.s, u, o.t⟩ B ∧ G t = some (.tup s.vals) ∧ (∀ b x, H b = some x → b ∉ [p, o.p, o.s, o.t] → G b = some x) ∧ (hd = t ∨ (G hd = some (.lst s.vals) ∧ H hd = none ∧ hd ≠ u)) := fun G u h1 h2 h3 => by
        obtain ⟨x1, x2, x3⟩ := W2.add h2 h3 h1
        refine ⟨x1, h1, x2, x3, h2 _ _ ht2 fun m => W2.con.noTup t m _ ht2, fun b x q n => h2 _ _ (b02 b x (fun z => n (by rw [z]; exact List.mem_cons_self)) q) fun m => n (List.mem_cons_of_mem _ m), hh2.imp_right fun ⟨q, n⟩ => ⟨h2 _ _ q fun m => ?_, n, fun z => by rw [z, h3] at q; cases q⟩⟩
        obtain ⟨⟨dx, h0⟩, ⟨vs, h4, _⟩, _, ⟨kvs, h5, _⟩, _⟩ := W.con
        rcases List.mem_cons.mp m with rfl | m
        · rw [h0] at n; cases n
        rcases List.mem_cons.mp m with rfl | m
        · rw [h4] at n; cases n
        · obtain rfl := List.mem_singleton.mp m
          rw [h5] at n; cases n
      refine ite2 (fun _ => ?_) (fun _ => ?_)
      · obtain ⟨dx, hob⟩ := W2.con.ob
        have la : (cF o).lookup ("add" : Str) = none := f_none (by decide +kernel) (by decide +kernel) (by decide +kernel)
        refine ⟨_, rfl, o.p, dx, _, rfl, hob, la, _, rfl, rfl, good_sp good sq W2.con ck fun G u h1 h2 h3 => ⟨rfl, _, rfl, ifN (by decide) ?_⟩⟩
        exact ⟨u, rfl, m2 G u h1 h2 h3⟩
      · refine ⟨_, rfl, _, rfl, o, c, .ref hd, rfl, W2.con, ck, .inr (.inr (.inr ⟨s, sq, good, fun a u G h1 h2 h3 ha => ?_⟩))⟩
        refine ⟨by show 2 ≤ sizeLine; decide, fun t2 n2 => ?_⟩
        have s4 := same_new (o := .tup [.str "fine", .non]) n2
        refine ⟨_, _, rfl, .tup (s4 _ _ ha) upd_same rfl (by show 2 ≤ sizeLine; decide) (fun i x y hx hy => ?_), fun G4 s5 => ⟨true, rfl, ifN rfl ?_⟩⟩
        · rw [hx] at hy
          cases hy
          have m := List.mem_of_getElem? hx
          rcases List.mem_cons.mp m with rfl | m
          · exact .str 1 _
          · rw [List.mem_singleton.mp m]; exact .non 1
        · have s6 := s4.trans s5
          exact ⟨u, rfl, m2 G4 u (h1.up s6) (fun b x q n => s6 _ _ (h2 b x q n)) h3⟩
    clear hh ht b1 st1
    rintro σ F ⟨u, rfl, st1, con, bk, ap, ht, fr, hh⟩
    obtain ⟨us, hus0, pus0⟩ := bk.s
    have pS : ∀ {v y}, StepAt F v y → StepAt F v y := fun h => h
    refine ⟨fun σ F => ∃ v6 : V, σ = [some (.ref p), some (.ref o.p), some (.ref B.b), some (.str nm), some (.ref t), some (.int (wt : Nat)), some v6] ∧ Adm C H F p l ⟨o.p, o.s, u, o.t⟩ B (c.add s) (us ++ [.ref t]) (c.steps ++ [s]) [p, o.p, o.s, o.t, B.b, B.s, B.t, B.f, B.w] ∧ Pcs F B ((c.unk.length : Nat) : Int) us c.names (fs.map (·.1)) ws, ?_, ?_⟩
    · have sub : ∀ b, b ∉ [p, o.p, o.s, o.t, B.b, B.s, B.t, B.f, B.w] → b ∉ [p, o.p, o.s, o.t] := fun b n m => n (show b ∈ [p, o.p, o.s, o.t] ++ [B.b, B.s, B.t, B.f, B.w] from List.mem_append_left _ m)
      rcases hh with rfl | ⟨q, n, nu⟩
      · exact isi (K := K) (b := false) rfl (.tup ht) (by decide +kernel) ⟨_, rfl, ifN rfl ⟨_, rfl, ⟨st1, con, pair_snoc ⟨_, rfl, ht⟩ pus0, fun b x q n => fr b x q (sub b n)⟩, ⟨bk.b, hus0, bk.t, bk.f, bk.w⟩⟩⟩
      · refine isi (K := K) (b := true) rfl (.lst q) (by decide +kernel) ⟨_, rfl, ifY rfl ⟨_, rfl, hd, _, _, 1, rfl, rfl, q, ?_, ?_⟩⟩
        · have lv : 2 ≤ s.vals.length := by unfold Stp.vals; rw [List.length_cons, List.length_cons]; omega
          unfold ixN
          rw [if_pos (by decide), if_pos (by omega)]
          rfl
        · have nh : ∀ {b x}, H b = some x → b ≠ hd := fun {b x} q1 z => by rw [z, n] at q1; cases q1
          have g : Chg [hd] F (upd F hd (.lst (s.vals.set 1 (.str "zzzz")))) := fun b x q1 m => (upd_ne fun z => m (by rw [z]; exact List.mem_cons_self)).trans q1
          have nt : ∀ d ∈ [hd], ∀ xs, F d ≠ some (.tup xs) := fun d m xs e => by rw [List.mem_singleton.mp m, q] at e; cases e
          obtain ⟨⟨dx, h0⟩, ⟨vs, h4, _⟩, h6, ⟨kvs, h5, _⟩, _⟩ := W.con
          obtain ⟨us1, hs1, _⟩ := W.bk.s
          have hp : hd ≠ p ∧ hd ≠ l := W.st.ne n
          have bk2 := bk.chg g nt ⟨one_not (nh W.bk.b), one_not (nh hs1), one_not (nh W.bk.t), one_not (nh W.bk.f), one_not (nh W.bk.w)⟩
          have th : t ≠ hd := fun z => by rw [z, q] at ht; cases ht
          refine ⟨_, rfl, ⟨st1.set hp.1 hp.2, con.chgW g nt (fun e me px _ v tv d e2 m => ?_) ⟨one_not (nh h0), one_not (nh h4), one_not (Ne.symm nu), one_not (nh h5)⟩, pair_snoc ⟨_, rfl, (upd_ne th).trans ht⟩ (pair_imp (fun _ _ ⟨a, e, q1⟩ => ⟨a, e, g _ _ q1 fun m => nt a m _ q1⟩) pus0), fun b x q1 m => (upd_ne (nh q1)).trans (fr b x q1 (sub b m))⟩, ⟨bk2.b, (upd_ne (nh hs1)).trans hus0, bk2.t, bk2.f, bk2.w⟩⟩
          rw [List.mem_singleton.mp m] at e2
          exact tab_lst q v px tv e2
    clear hh fr bk con st1 ht hus0 pus0 pS
    rintro σ F ⟨v6, rfl, A, pc⟩
    have lns : c.names.length ≤ 12 := by rw [ck.nm, List.length_map]; exact ck.len
    have lus : us.length ≤ 12 := by
      have h1 := Paired.length A.pus
      rw [List.length_append, List.length_append] at h1
      have h2 : c.steps.length ≤ 12 := ck.len
      have h3 : ([V.ref t] : List V).length = 1 := rfl
      have h4 : [s].length = 1 := rfl
      omega
    have lws : ws.length ≤ 12 := by
      have := congrArg List.length inv.nm
      rw [List.length_map] at this
      omega
    refine ⟨_, rfl, B.b, _, rfl, bkS pc.b, .inl ⟨rfl, _, SqL.of pc.s⟩, _, rfl, B.s, _, _, rfl, rfl, pc.s, by rw [sizeLine_eq]; omega, ?_⟩
    have A1 := A.upd (x := .lst (us ++ [.ref t])) ap (.inr (.inl rfl)) (fun xs e => by rw [pc.s] at e; cases e) (fun _ _ px _ v tv => tab_lst pc.s v px tv) (by simp)
    have pc1 := pc.sS ap (us ++ [.ref t])
    generalize upd F B.s (.lst (us ++ [.ref t])) = F1 at A1 pc1 ⊢
    clear A pc
    refine ⟨_, rfl, B.b, _, rfl, bkT pc1.b, .inl ⟨rfl, _, SqL.of pc1.t⟩, _, rfl, B.t, _, _, rfl, rfl, pc1.t, by rw [List.length_map, sizeLine_eq]; omega, ?_⟩
    have en : c.names.map V.str ++ [V.str nm] = (c.names ++ [nm]).map V.str := by rw [List.map_append]; rfl
    rw [en]
    have A2 := A1.upd (x := .lst ((c.names ++ [nm]).map V.str)) ap (.inr (.inr (.inl rfl))) (fun xs e => by rw [pc1.t] at e; cases e) (fun _ _ px _ v tv => tab_lst pc1.t v px tv) (by simp)
    have pc2 := pc1.sT ap (c.names ++ [nm])
    generalize upd F1 B.t (.lst ((c.names ++ [nm]).map V.str)) = F2 at A2 pc2 ⊢
    clear A1 pc1 en
    have nnw : nm ∉ ws.map (·.1) := by rw [inv.nm]; exact new
    refine ⟨_, rfl, _, rfl, B.b, _, rfl, bkW pc2.b, _, rfl, B.w, _, rfl, wtPut (wt := wt) pc2.w nnw (by omega), ?_⟩
    have A3 : Adm C H (upd F2 B.w (.dK (wtK (ws ++ [(nm, wt)])))) p l ⟨o.p, o.s, u, o.t⟩ B (c.add s) (us ++ [.ref t]) (c.steps ++ [s]) [p, o.p, o.s, o.t, B.b, B.s, B.t, B.f, B.w] := by
      refine A2.upd ap (.inr (.inr (.inr (.inr rfl)))) (fun xs e => by rw [pc2.w] at e; cases e) (fun e me px hpx v tv => ?_) (by simp)
      cases hws : ws with
      | cons e0 r =>
        have hw := pc2.w
        rw [hws] at hw
        exact text_loose hw v px tv
      | nil =>
        have e0 : c.tri = [] := by
          have h1 := inv.nm
          rw [hws] at h1
          exact List.map_eq_nil_iff.mp h1.symm
        have hf := first_free e0 ok.rt
        have m3 := ok.fr hf
        have me : e ∈ c.tri ++ [(s.nm, c.mk3 s)] := me
        rw [e0, m3] at me
        obtain rfl := List.mem_singleton.mp me
        have hw := pc2.w
        rw [hws] at hw
        have one : ∀ i, evX (powS 1) (.var i) ≠ 0 := fun i => by
          show (1 : Int) ^ _ ≠ 0
          rw [Int.one_pow]
          decide
        rcases hpx with rfl | rfl | rfl
        · exact tv.some (one _) hw
        · exact tv.some (one _) hw
        · exact tv.some (B := 1) (show (1 : Int) ≠ 0 by decide) hw
    have pc3 := pc2.sW ap (ws ++ [(nm, wt)])
    generalize upd F2 B.w (.dK (wtK (ws ++ [(nm, wt)]))) = F3 at A3 pc3 ⊢
    clear A2 pc2
    have pt : ∀ {G : Hp}, Adm C H G p l ⟨o.p, o.s, u, o.t⟩ B (c.add s) (us ++ [.ref t]) (c.steps ++ [s]) [p, o.p, o.s, o.t, B.b, B.s, B.t, B.f, B.w] → G t = some (.tup s.vals) := fun {G} A => by
      have l1 := Paired.length A.pus
      rw [List.length_append, List.length_append] at l1
      have h1 : (us ++ [V.ref t])[us.length]? = some (.ref t) := by simp
      have h2 : (c.steps ++ [s])[us.length]? = some s := by
        have : us.length = c.steps.length := by
          have h3 : ([V.ref t] : List V).length = [s].length := rfl
          omega
        rw [this]
        simp
      obtain ⟨a, e, q⟩ := pair_get A.pus h1 h2
      cases e
      exact q
    have at0 : atI s.vals ((0 : Nat) : Int) = some (V.str (wdS s.w)) := atI_nat rfl
    refine ⟨fun σ F => σ = [some (.ref p), some (.ref o.p), some (.ref B.b), some (.str nm), some (.ref t), some (.int (wt : Nat)), some v6] ∧ Adm C H F p l ⟨o.p, o.s, u, o.t⟩ B (c.add s) (us ++ [.ref t]) (c.steps ++ [s]) [p, o.p, o.s, o.t, B.b, B.s, B.t, B.f, B.w] ∧ Pcs F B ((c.unk.length : Nat) : Int) (us ++ [.ref t]) (c.names ++ [nm]) ((if s.w = .free then fs ++ [(nm, c.unk.length)] else fs).map (·.1)) (ws ++ [(nm, wt)]), ?_, ?_⟩
    · refine ⟨_, rfl, t, _, _, _, rfl, rfl, SqT.of (pt A3), at0, rfl, _, rfl, ?_⟩
      rw [wdS_free]
      by_cases hf : s.w = .free
      · rw [decide_eq_true hf]
        have fl : fs.length ≤ 1000 := by
          have nd : (fs.map (·.1)).Nodup := by
            refine List.pairwise_map.mpr (List.Pairwise.imp_of_mem (fun {a b} ha hb h e => ?_) inv.fd)
            have h1 := (inv.fr a ha).1
            have h2 := (inv.fr b hb).1
            rw [e, h2] at h1
            have h3 := Option.some.inj h1
            have h4 : Px.var b.2 = Px.var a.2 := congrArg P3.x h3
            injection h4 with h4
            omega
          have h1 := nodup_sub nd (b := c.names) fun x m => by
            obtain ⟨e, me, rfl⟩ := List.mem_map.mp m
            exact pt_mem (inv.fr e me).1
          rw [List.length_map] at h1
          omega
        refine ifY rfl ⟨_, rfl, B.b, _, rfl, bkF pc3.b, .inl ⟨rfl, _, SqL.of pc3.f⟩, _, rfl, B.f, _, _, rfl, rfl, pc3.f, by rw [List.length_map, List.length_map, sizeLine_eq]; omega, ?_⟩
        have en : (fs.map (·.1)).map V.str ++ [V.str nm] = ((fs ++ [(nm, c.unk.length)]).map (·.1)).map V.str := by rw [List.map_append, List.map_append]; rfl
        rw [en, if_pos hf]
        exact ⟨rfl, A3.upd ap (.inr (.inr (.inr (.inl rfl)))) (fun xs e => by rw [pc3.f] at e; cases e) (fun _ _ px _ v tv => tab_lst pc3.f v px tv) (by simp), pc3.sF ap _⟩
      · rw [decide_eq_false hf]
        refine ifN rfl ⟨rfl, A3, ?_⟩
        rw [if_neg hf]
        exact pc3
    clear A3 pc3
    rintro σ F ⟨rfl, A, pc⟩
    have ht := pt A
    refine ⟨_, rfl, B.b, _, rfl, bkM pc.b, _, rfl, t, _, _, _, rfl, rfl, SqT.of ht, at0, rfl, .inr ⟨_, rfl, _, _, rfl, rfl, .inl ⟨by decide, by decide⟩, _, _, rfl, rfl, _, rfl, t, _, _, _, rfl, rfl, SqT.of ht, at0, rfl, .inr ⟨_, rfl, _, _, rfl, rfl, _, rfl, B.b, _, rfl, bkPut pc.b _, ?_⟩⟩⟩
    rw [wdS_free, wdS_slide]
    have hm : (((c.unk.length : Nat) : Int) + 2 * (if decide (s.w = .free) = true then 1 else 0) + (if decide (s.w = .slide) = true then 1 else 0) : Int) = (((c.add s).unk.length : Nat) : Int) := by
      show _ = (((c.unk ++ newUnk s).length : Nat) : Int)
      rw [List.length_append, newUnk_len]
      cases s.w
      all_goals first | rfl | (show _ + 2 * 0 + 0 = _; simp [arU]) | (show _ + 2 * 1 + 0 = _; simp [arU]) | (show _ + 2 * 0 + 1 = _; simp [arU])
    dsimp only
    rw [hm]
    have A5 := A.upd (x := .dK (bkK B (((c.add s).unk.length : Nat) : Int))) ap (.inl rfl) (fun xs e => by rw [pc.b] at e; cases e) (fun _ _ px _ v tv => text_loose (x := "steps") pc.b v px tv) (by simp)
    have pc5 := pc.sB ap (((c.add s).unk.length : Nat) : Int)
    generalize upd F B.b (.dK (bkK B (((c.add s).unk.length : Nat) : Int))) = F5 at A5 pc5 ⊢
    have inv2 := inv.add ok l12
    have nms : (c.add s).names = c.names ++ [nm] := by rw [names_add, ok.nm]
    have bk5 : BookAt F5 B (c.add s) (ws ++ [(nm, wt)]) (if s.w = .free then fs ++ [(nm, c.unk.length)] else fs) := ⟨pc5.b, ⟨_, pc5.s, A5.pus⟩, by rw [nms]; exact pc5.t, pc5.f, pc5.w⟩
    refine ⟨_, rfl, _, rfl, ⟨o.p, o.s, u, o.t⟩, B, c.add s, _, _, rfl, A5.con, bk5, inv2.ck, fun G sG => ?_⟩
    exact go s u _ _ G ok.nm ⟨A5.st.same sG, A5.con.up sG, bk5.same sG, ap⟩ inv2 fun b x q n => sG _ _ (A5.fr b x q n)
end
end CN

set_option Elab.async false
set_option linter.all false
set_option maxRecDepth 100000
set_option maxHeartbeats 8000000
set_option autoImplicit false
set_option pp.maxSteps 600
/-! The law. -/
namespace CN
open PySem L2 TL K1D K2P
open K4 (isNm lets)
abbrev sLaw : Stmt := K2P.top 80
theorem merge_bk {B : Bk} {m : Int} : mergeK [] (bkK B m) = bkK B m := by
  have := ne_bk
  simp [mergeK, putK, bkK, this, Ne.symm]
theorem Inv.new : Inv Cst.new [] [] := ⟨Cok.new, rfl, fun _ m => (nomatch m), fun x p e => (by unfold Cst.pt at e; cases e), fun _ _ h => (nomatch h), fun _ m => (nomatch m), .nil⟩
theorem cnt_at : ∀ n, n < 5 → ∃ m : Nat, m ≤ 12 ∧ 0 < m ∧ ([.int 3, .int 5, .int 8, .int 12, .int 12] : List V)[n]? = some (.int (m : Nat)) := by
  intro n h
  match n, h with
  | 0, _ => exact ⟨3, by decide, by decide, rfl⟩
  | 1, _ => exact ⟨5, by decide, by decide, rfl⟩
  | 2, _ => exact ⟨8, by decide, by decide, rfl⟩
  | 3, _ => exact ⟨12, by decide, by decide, rfl⟩
  | 4, _ => exact ⟨12, by decide, by decide, rfl⟩
def spLaw (K : PySem.W.Frag) : Sp := fun vs H Q _ => ∃ (a : Addr) (ns : List Int), vs = [.ref a] ∧ SqL K H a (ns.map V.int) ∧ ns.length ≤ 1000 ∧ ∀ G, Q (.bl true) G
structure LawZ (P : Program) (w : World) (K : PySem.W.Frag) (mg : Str → Option Value) (base : Heap) (C fU fS fN fR fD fX fA fF : Addr) (dU dS dN dR dD dX dA dF : FuncData) : Prop where
  T : LChkTxt mg
  CT : ConTxt K mg C
  MC : Mk K C fU
  UI : InitT P w K mg base 1 ["self"] (spCInit C) fU dU
  US : CallT P w K mg base CX0 1 "_law_start" ["script"] (spStart K) fS dS
  UN : CallT P w K mg base CX0 2 "_law_names" ["state", "many"] spNames fN dN
  UR : CallT P w K mg base CX0 4 "_law_state_right" ["figure", "book"] (spLRight C) fR dR
  UD : CallT P w K mg base CX0 1 "_law_draw" ["state", "many"] spDraw fD dD
  UX : CallT P w K mg base CX0 12 "_law_refused" ["state", "figure", "book", "name"] (spLRef C) fX dX
  UA : CallT P w K mg base CX0 12 "_law_added" ["state", "figure", "book", "name"] (spLAdded C) fA dA
  UF : CallT P w K mg base CX0 12 "_law_full" ["state", "figure", "book", "name"] (spLFull C) fF dF
section
variable {P : Program} {w : World} {K : PySem.W.Frag} {mg : Str → Option Value} {base : Heap} {C fU fS fN fR fD fX fA fF : Addr} {dU dS dN dR dD dX dA dF : FuncData}
theorem scLaw : FnScope ["script", "state", "names", "figure", "book", "k", "turn", "last"] ["script"] (defScope sLaw) := ⟨rfl, rfl, rfl, by decide +kernel, rfl, by decide +kernel, by decide +kernel⟩
theorem ok_law {f : Addr} {fd : FuncData} (F : Fun K "law" "law" sLaw f fd) (Z : LawZ P w K mg base C fU fS fN fR fD fX fA fF dU dS dN dR dD dX dA dF) : FnOk P w K mg base CX0 13 f fd ["script"] (spLaw K) := by
  refine F.ok scLaw (fun vs H Q E h => ?_) (fun cdv Ar outer s H vs Q E hr h => ?_)
  · obtain ⟨a, ns, rfl, _⟩ := h
    rfl
  · obtain ⟨a, sc, rfl, hs, nl, go⟩ := h
    refine ⟨_, (pss_cons (ps_set (i := 1) scLaw.nd rfl (Or.inl rfl) (pe_call Z.US.ok (hr.mono (by decide)) rfl Z.US.g Z.US.k Z.US.b .nil pass0 (pa_cons (pv 0) pa_nil)))
      (pss_cons (ps_set (i := 2) scLaw.nd rfl (Or.inl rfl) (pe_call Z.UN.ok (hr.mono (by decide)) rfl Z.UN.g Z.UN.k Z.UN.b .nil pass0 (pa_cons (pv 1) (pa_cons pe_int pa_nil))))
      (pss_cons (ps_set (i := 3) scLaw.nd rfl (Or.inl rfl) (pe_make0 Z.MC Z.UI.ok (hr.mono (by decide)) rfl Z.CT.gC Z.UI.b .nil pass0))
      (pss_cons (ps_set (i := 4) scLaw.nd rfl (Or.inl rfl) (pe_disp (pps_cons pe_str (pe_lst pa_nil) (pps_cons pe_str (pe_lst pa_nil) (pps_cons pe_str (pe_lst pa_nil) (pps_cons pe_str pe_dnewK (pps_cons pe_str pe_int pps_nil))))) (by rfl) (by rfl) (by simp) (by decide)))
      (pss_cons (ps_if (pt_not (pt_val (pe_call Z.UR.ok (hr.mono (by decide)) rfl Z.UR.g Z.UR.k Z.UR.b .nil pass0 (pa_cons (pv 3) (pa_cons (pv 4) pa_nil))))) (pss_one (ps_ret pe_bl)) pss_nil)
      (pss_cons (ps_for PassesOwn.never rfl (pi_range1 (by rfl) Z.T.range (pa_cons (pe_ix ix_tup (pe_tup (pa_cons pe_int (pa_cons pe_int (pa_cons pe_int (pa_cons pe_int (pa_cons pe_int pa_nil)))))) (pe_call Z.UD.ok (hr.mono (by decide)) rfl Z.UD.g Z.UD.k Z.UD.b .nil pass0 (pa_cons (pv 1) (pa_cons pe_int pa_nil))) (fun _ _ => rfl)) pa_nil)) (pg_name (i := 5) scLaw.nd rfl (Or.inl rfl)) (pss_cons (ps_for PassesOwn.never rfl (pi_range1 (by rfl) Z.T.range (pa_cons (pe_op op_add pe_int (pe_call Z.UD.ok (hr.mono (by decide)) rfl Z.UD.g Z.UD.k Z.UD.b .nil pass0 (pa_cons (pv 1) (pa_cons pe_int pa_nil)))) pa_nil)) (pg_name (i := 6) scLaw.nd rfl (Or.inl rfl)) (pss_one (ps_if (pt_not (pt_val (pe_call Z.UX.ok (hr.mono (by decide)) rfl Z.UX.g Z.UX.k Z.UX.b .nil pass0 (pa_cons (pv 1) (pa_cons (pv 3) (pa_cons (pv 4) (pa_cons (pe_ix ix_list (pv 2) (pv 5) (fun _ _ => rfl)) pa_nil))))))) (pss_one (ps_ret pe_bl)) pss_nil)))
      (pss_one (ps_if (pt_not (pt_val (pe_call Z.UA.ok (hr.mono (by decide)) rfl Z.UA.g Z.UA.k Z.UA.b .nil pass0 (pa_cons (pv 1) (pa_cons (pv 3) (pa_cons (pv 4) (pa_cons (pe_ix ix_list (pv 2) (pv 5) (fun _ _ => rfl)) pa_nil))))))) (pss_one (ps_ret pe_bl)) pss_nil))))
      (pss_cons (ps_set (i := 7) scLaw.nd rfl (Or.inl rfl) (pe_ix ix_list (pv 2) (pe_callB call_len_seq (by rfl) Z.T.len PySem.boot_len (pa_cons (pe_dget (hu1 hr) (pv 4) pe_str (fun _ _ => rfl)) pa_nil)) (fun _ _ => rfl)))
      (pss_cons (ps_if (PW.pt (pw_or (pt_not (pt_val (pe_call Z.UF.ok (hr.mono (by decide)) rfl Z.UF.g Z.UF.k Z.UF.b .nil pass0 (pa_cons (pv 1) (pa_cons (pv 3) (pa_cons (pv 4) (pa_cons (pv 7) pa_nil))))))) (pw_or1 (pt_not (pt_val (pe_call Z.UX.ok (hr.mono (by decide)) rfl Z.UX.g Z.UX.k Z.UX.b .nil pass0 (pa_cons (pv 1) (pa_cons (pv 3) (pa_cons (pv 4) (pa_cons (pv 7) pa_nil)))))))))) (pss_one (ps_ret pe_bl)) pss_nil)
      (pss_one (ps_ret (pe_call Z.UX.ok (hr.mono (by decide)) rfl Z.UX.g Z.UX.k Z.UX.b .nil pass0 (pa_cons (pv 1) (pa_cons (pv 3) (pa_cons (pv 4) (pa_cons (pv 7) pa_nil))))))))))))))), ?_⟩
    refine ⟨_, rfl, a, sc, rfl, hs, nl, fun p l H1 s1 st1 => ?_⟩
    refine ⟨_, rfl, p, l, 13, rfl, st1, by decide, fun N ns G2 st2 b2 nN Np hN lns nd nms => ?_⟩
    dsimp only [gName]
    refine st_re (σ2 := [some (.ref a), some (.ref p), some (.ref N), none, none, none, none, none]) rfl ?_
    intro x1 d1 nx nd1 ne1
    have s0 : Same G2 (upd (upd G2 d1 (.own x1)) x1 (.ins C d1 [])) := fun b z q => (upd_ne (ne_of_none q nx)).trans ((upd_ne (ne_of_none q nd1)).trans q)
    have old : ∀ b, upd (upd G2 d1 (.own x1)) x1 (.ins C d1 []) b = none → G2 b = none := fun b z => none_up s0 z
    refine ⟨x1, d1, rfl, upd_same, fun o G3 ep con k1 n1 n2 n3 => ⟨rfl, ?_⟩⟩
    have s3 : Same G2 G3 := fun b z q => k1 _ _ (s0 _ _ q) (ne_of_none q nx)
    have no : o.New G2 := ⟨by rw [ep]; exact nx, old _ n1, old _ n2, old _ n3⟩
    clear k1 n1 n2 n3 old s0
    dsimp only [gName, List.set]
    have st3 := st2.same s3
    have hN3 := s3 _ _ hN
    obtain ⟨⟨dx, ho1⟩, ⟨ovs, ho2, _⟩, ho3, ⟨okv, ho4, _⟩, _⟩ := id con
    intro bb nb
    have a1 := same_new (o := .dK []) nb
    have hb1 : upd G3 bb (.dK []) bb = some (.dK []) := upd_same
    generalize upd G3 bb (.dK []) = F1 at a1 hb1 ⊢
    refine ⟨by show 0 ≤ sizeLine; decide, fun bs ns1 => ?_⟩
    have a2 := same_new (o := .lst []) ns1
    have e12 : bb ≠ bs := ne_of_none hb1 ns1
    have hb2 := a2 _ _ hb1
    have hs2 : upd F1 bs (.lst []) bs = some (.lst []) := upd_same
    have b2' := none_up a1 ns1
    have a02 := a1.trans a2
    generalize upd F1 bs (.lst []) = F2 at a02 hb2 hs2 ⊢
    refine ⟨by show 0 ≤ sizeLine; decide, fun bt nt1 => ?_⟩
    have a3 := same_new (o := .lst []) nt1
    have e13 : bb ≠ bt := ne_of_none hb2 nt1
    have e23 : bs ≠ bt := ne_of_none hs2 nt1
    have hb3 := a3 _ _ hb2
    have hs3 := a3 _ _ hs2
    have ht3 : upd F2 bt (.lst []) bt = some (.lst []) := upd_same
    have b3' := none_up a02 nt1
    have a03 := a02.trans a3
    generalize upd F2 bt (.lst []) = F3 at a03 hb3 hs3 ht3 ⊢
    refine ⟨by show 0 ≤ sizeLine; decide, fun bf nf1 => ?_⟩
    have a4 := same_new (o := .lst []) nf1
    have e14 : bb ≠ bf := ne_of_none hb3 nf1
    have e24 : bs ≠ bf := ne_of_none hs3 nf1
    have e34 : bt ≠ bf := ne_of_none ht3 nf1
    have hb4 := a4 _ _ hb3
    have hs4 := a4 _ _ hs3
    have ht4 := a4 _ _ ht3
    have hf4 : upd F3 bf (.lst []) bf = some (.lst []) := upd_same
    have b4' := none_up a03 nf1
    have a04 := a03.trans a4
    generalize upd F3 bf (.lst []) = F4 at a04 hb4 hs4 ht4 hf4 ⊢
    intro bw nw1
    have a5 := same_new (o := .dK []) nw1
    have e15 : bb ≠ bw := ne_of_none hb4 nw1
    have e25 : bs ≠ bw := ne_of_none hs4 nw1
    have e35 : bt ≠ bw := ne_of_none ht4 nw1
    have e45 : bf ≠ bw := ne_of_none hf4 nw1
    have hb5 := a5 _ _ hb4
    have hs5 := a5 _ _ hs4
    have ht5 := a5 _ _ ht4
    have hf5 := a5 _ _ hf4
    have hw5 : upd F4 bw (.dK []) bw = some (.dK []) := upd_same
    have b5' := none_up a04 nw1
    have a05 := a04.trans a5
    generalize upd F4 bw (.dK []) = F5 at a05 hb5 hs5 ht5 hf5 hw5 ⊢
    clear a1 a2 a3 a4 a5 a02 a03 a04 hb1 hb2 hb3 hb4 hs2 hs3 hs4 ht3 ht4 hf4 ns1 nt1 nf1 nw1
    obtain ⟨B, hB⟩ : ∃ B : Bk, B = ⟨bb, bs, bt, bf, bw⟩ := ⟨_, rfl⟩
    refine ⟨hb5, bkK B 0, by rw [hB]; rfl, by show 5 ≤ 15; decide, ?_⟩
    rw [merge_bk]
    have s6 : Same G3 (upd F5 bb (.dK (bkK B 0))) := fun b x q => (upd_ne (ne_of_none q nb)).trans (a05 _ _ q)
    have bk : BookAt (upd F5 bb (.dK (bkK B 0))) B Cst.new [] [] := by
      rw [hB]
      exact ⟨upd_same, ⟨[], (upd_ne (Ne.symm e12)).trans hs5, .nil⟩, (upd_ne (Ne.symm e13)).trans ht5, (upd_ne (Ne.symm e14)).trans hf5, (upd_ne (Ne.symm e15)).trans hw5⟩
    generalize upd F5 bb (.dK (bkK B 0)) = G6 at s6 bk ⊢
    have bnew : ∀ x, x = B.b ∨ x = B.s ∨ x = B.t ∨ x = B.f ∨ x = B.w → G3 x = none := by
      rw [hB]
      rintro x (rfl | rfl | rfl | rfl | rfl)
      · exact nb
      · exact b2'
      · exact b3'
      · exact b4'
      · exact b5'
    have ap : Apart p l o B := by
      have e1 := st2.ne no.p
      have e2 := st2.ne no.s
      have e3 := st2.ne no.u
      have e4 := st2.ne no.t
      have f1 := st3.ne (bnew _ (.inl rfl))
      have f2 := st3.ne (bnew _ (.inr (.inl rfl)))
      have f3 := st3.ne (bnew _ (.inr (.inr (.inl rfl))))
      have f4 := st3.ne (bnew _ (.inr (.inr (.inr (.inl rfl)))))
      have f5 := st3.ne (bnew _ (.inr (.inr (.inr (.inr rfl)))))
      refine ⟨⟨e1.1, e2.1, e3.1, e4.1⟩, ⟨e1.2, e2.2, e3.2, e4.2⟩, ⟨f1.1, f2.1, f3.1, f4.1, f5.1⟩, ⟨f1.2, f2.2, f3.2, f4.2, f5.2⟩, fun x hx => ?_, by rw [hB]; exact ⟨e12, e13, e14, e15, e23, e24, e25, e34, e35, e45⟩⟩
      have n := bnew x hx
      exact ⟨Ne.symm (ne_of_none ho1 n), Ne.symm (ne_of_none ho2 n), Ne.symm (ne_of_none ho3 n), Ne.symm (ne_of_none ho4 n)⟩
    have W : Wld C G6 p l o B Cst.new [] [] := ⟨st3.same s6, con.up s6, bk, ap⟩
    have hN6 := s6 _ _ hN3
    have N9 : N ∉ [p, o.p, o.s, o.t, B.b, B.s, B.t, B.f, B.w] := fun m => by
      rcases List.mem_cons.mp m with e | m; · exact Np e
      rcases List.mem_cons.mp m with e | m; · exact ne_of_none hN no.p e
      rcases List.mem_cons.mp m with e | m; · exact ne_of_none hN no.s e
      rcases List.mem_cons.mp m with e | m; · exact ne_of_none hN no.t e
      rcases List.mem_cons.mp m with e | m; · exact ne_of_none hN3 (bnew _ (.inl rfl)) e
      rcases List.mem_cons.mp m with e | m; · exact ne_of_none hN3 (bnew _ (.inr (.inl rfl))) e
      rcases List.mem_cons.mp m with e | m; · exact ne_of_none hN3 (bnew _ (.inr (.inr (.inl rfl)))) e
      rcases List.mem_cons.mp m with e | m; · exact ne_of_none hN3 (bnew _ (.inr (.inr (.inr (.inl rfl))))) e
      · exact ne_of_none hN3 (bnew _ (.inr (.inr (.inr (.inr rfl))))) (List.mem_singleton.mp m)
    have hbb : bb = B.b := by rw [hB]
    rw [hbb]
    have hop : x1 = o.p := ep.symm
    rw [hop]
    clear hB bnew s6 s3 hN hN3 nb b2' b3' b4' b5' a05 hb5 hs5 ht5 hf5 hw5 e12 e13 e14 e15 e23 e24 e25 e34 e35 e45 ho1 ho2 ho3 ho4 con no bk ap st3 st2 b2 st1 hbb hop
    dsimp only [gName, List.set]
    refine ⟨_, rfl, _, rfl, o, B, Cst.new, [], [], rfl, W.con, W.bk, Cok.new, fun G7 s7 => ⟨_, rfl, ifN rfl ?_⟩⟩
    have W7 := W.same s7
    have hN7 := s7 _ _ hN6
    clear W hN6
    dsimp only [tNext]
    refine ⟨by show 5 ≤ sizeLine; decide, fun t nt => ⟨_, rfl, p, l, 5, rfl, W7.st.up nt, by decide, by decide, fun z G8 z0 z1 st8 b8 => ?_⟩⟩
    have tp := (W7.st.ne nt).1
    have ht : G8 t = some (.tup [.int 3, .int 5, .int 8, .int 12, .int 12]) := b8 _ _ tp upd_same
    obtain ⟨n, rfl⟩ : ∃ n : Nat, z = n := ⟨z.toNat, by omega⟩
    obtain ⟨m, m12, m0, hm⟩ := cnt_at n (by omega)
    have b78 : Bt p G7 G8 := (Bt.same (same_new nt)).trans b8
    have W8 := W7.bt b78 st8
    have hN8 := b78 _ _ Np hN7
    refine ⟨t, _, _, _, rfl, rfl, SqT.of ht, atI_nat hm, _, rfl, by omega, by omega, ?_⟩
    rw [Int.toNat_natCast]
    clear ht hm tp nt b78 b8 W7 hN7
    have at9 : ∀ k, k < 13 → ∃ nm, ns[k]? = some nm ∧ isNm nm = true ∧ nm ∉ ns.take k := fun k h => by
      have lk : k < ns.length := by omega
      refine ⟨ns[k], List.getElem?_eq_getElem lk, nms _ (List.getElem_mem lk), fun m => ?_⟩
      obtain ⟨j, hj⟩ := List.mem_iff_getElem?.mp m
      rw [List.getElem?_take] at hj
      split at hj
      · have := (List.getElem?_inj (List.getElem?_eq_some_iff.mp hj).1 nd).mp (hj.trans (List.getElem?_eq_getElem lk).symm)
        omega
      · cases hj
    refine for_it (walk_range (lo := 0) (n := m)) (fun k σ G => ∃ (u : Addr) (c : Cst) (ws fs : List (Str × Nat)) (v5 v6 : Option V), σ = [some (.ref a), some (.ref p), some (.ref N), some (.ref o.p), some (.ref B.b), v5, v6, none] ∧ Wld C G p l ⟨o.p, o.s, u, o.t⟩ B c ws fs ∧ Inv c ws fs ∧ c.names = ns.take k ∧ G N = some (.lst (ns.map V.str)))
      ⟨o.u, _, _, _, _, _, rfl, W8, Inv.new, rfl, hN8⟩ (fun _ _ _ _ _ => trivial) (fun k v σ F0 F hk ⟨u, c, ws, fs, v5, v6, hσ, W, inv, hnm, hN⟩ ⟨e, ev⟩ => ?_) (fun σ G ⟨u, c, ws, fs, v5, v6, hσ, W, inv, hnm, hN⟩ => ?_)
    · subst hσ e ev
      obtain ⟨nm, hat, hn, new⟩ := at9 k (by omega)
      have hat2 : (ns.map V.str)[k]? = some (.str nm) := by rw [List.getElem?_map, hat]; rfl
      rw [← hnm] at new
      dsimp only [gName, List.set]
      refine ⟨_, rfl, p, l, 2, rfl, W.st, by decide, by decide, fun d F2 d0 d2 st2 b2 => ⟨_, _, rfl, rfl, _, rfl, by omega, by omega, ?_⟩⟩
      refine for_it (walk_range (lo := 0) (n := (1 + d).toNat)) (fun j σ G => ∃ v6 : Option V, σ = [some (.ref a), some (.ref p), some (.ref N), some (.ref o.p), some (.ref B.b), some (.int (0 + (k : Int))), v6, none] ∧ Wld C G p l ⟨o.p, o.s, u, o.t⟩ B c ws fs ∧ G N = some (.lst (ns.map V.str)))
        ⟨_, rfl, W.bt b2 st2, b2 _ _ Np hN⟩ (fun _ _ _ _ _ => trivial) (fun j v σ F3 F4 hj ⟨v6, hσ, W3, hN3⟩ ⟨e, ev⟩ => ?_) (fun σ G ⟨v6, hσ, W3, hN3⟩ => ?_)
      · subst hσ e ev
        dsimp only [gName, List.set]
        refine ⟨_, rfl, _, rfl, _, rfl, _, rfl, _, rfl, N, _, _, _, rfl, rfl, SqL.of hN3, at_of (Int.zero_add _) hat2, p, l, ⟨o.p, o.s, u, o.t⟩, B, c, ws, fs, nm, rfl, W3, inv, hn, new, fun G st b => ⟨_, rfl, ifN rfl ?_⟩⟩
        exact ⟨_, rfl, W3.bt b st, b _ _ Np hN3⟩
      · subst hσ
        have ls : c.steps.length = k := by
          have h1 := congrArg List.length inv.ck.nm
          rw [List.length_map, hnm, List.length_take] at h1
          omega
        refine ⟨_, rfl, _, rfl, _, rfl, _, rfl, _, rfl, N, _, _, _, rfl, rfl, SqL.of hN3, at_of (Int.zero_add _) hat2, p, l, ⟨o.p, o.s, u, o.t⟩, B, c, ws, fs, nm, rfl, W3, inv, hn, new, by omega, fun s u2 ws2 fs2 G2 e W4 inv4 fr => ⟨_, rfl, ifN rfl ?_⟩⟩
        refine ⟨u2, c.add s, ws2, fs2, _, _, rfl, W4, inv4, ?_, fr _ _ hN3 N9⟩
        rw [names_add, hnm, e, K2P.take_snoc hat]
    · subst hσ
      obtain ⟨nm, hat, hn, new⟩ := at9 m (by omega)
      rw [← hnm] at new
      have ln : c.names.length = m := by rw [hnm, List.length_take]; omega
      have ne : c.names ≠ [] := fun z => by rw [z] at ln; simp at ln; omega
      dsimp only [gName, List.set]
      refine ⟨_, rfl, _, rfl, B.b, _, rfl, bkT W.bk.b, B.t, _, rfl, .inl (SqL.of W.bk.t), N, _, _, .str nm, rfl, rfl, SqL.of hN, ?_, ?_⟩
      · rw [List.length_map, ln]
        exact atI_nat (by rw [List.getElem?_map, hat]; rfl)
      · dsimp only [gName, List.set]
        refine ⟨_, rfl, _, rfl, _, rfl, _, rfl, p, l, ⟨o.p, o.s, u, o.t⟩, B, c, ws, fs, nm, rfl, W, inv, hn, new, ne, fun G1 s1 => ⟨_, rfl, ifN rfl ?_⟩⟩
        have W1 := W.same s1
        refine ⟨_, rfl, _, rfl, _, rfl, _, rfl, p, l, ⟨o.p, o.s, u, o.t⟩, B, c, ws, fs, nm, rfl, W1, inv, hn, new, fun G2 st2 b2 => ⟨_, rfl, ifN rfl ?_⟩⟩
        have W2 := W1.bt b2 st2
        exact ⟨_, rfl, _, rfl, _, rfl, _, rfl, p, l, ⟨o.p, o.s, u, o.t⟩, B, c, ws, fs, nm, rfl, W2, inv, hn, new, fun G3 _ _ => go G3⟩
end
end CN

set_option Elab.async false
set_option linter.all false
set_option maxRecDepth 100000
set_option maxHeartbeats 8000000
/-! What the top has written. -/
namespace CN
open PySem L2 K1D K2P
/-- an own error class over the base at B, at C -/
structure ClsFacts (K : PySem.W.Frag) (B C f : Addr) (x fld : Str) : Prop where
  gC : PySem.W.nsIn K mainGlobals x = some (some (.ref C))
  xL : ∃ nm q N bs sn sub ab col dd k0 k1 k2 k3 k5, K.lookup C = some (excClassObj nm q C N bs [.ref B, .type "Exception", .type "BaseException", .type "object"] true sn sub ab col dd k0 k1 k2 k3 k5 "Exception.__new__")
  sa : PySem.W.findIn K (.ref C) "__setattr__" = some (some (.builtin "object.__setattr__"))
  ga : PySem.W.findIn K (.ref C) "__getattribute__" = some (some (.builtin "BaseException.__getattribute__"))
  gg : PySem.W.findIn K (.ref C) "__getattr__" = some none
  nb : PySem.W.findIn K (.ref C) fld = some none
  cc : PySem.W.findIn K (.ref C) "__class__" = some (some (.builtin "object.__class__"))
  iC : PySem.W.findIn K (.ref C) "__init__" = some (some (.ref f))
  tI : PySem.W.typeIn K (.ref f) = some (.type "function")
  kC : PySem.W.keepIn K (.ref C) = true
  tC : PySem.W.typeIn K (.ref C) = some (.type "type")
section
variable {K : PySem.W.Frag} {B C f : Addr} {x fld : Str}
def line (B C : Addr) : List Value := [.ref C, .ref B, .type "Exception", .type "BaseException", .type "object"]
theorem ClsFacts.cls (T : ClsFacts K B C f x fld) : ∃ cd, PySem.W.clsIn K C = some cd ∧ cd.mro = line B C ∧ cd.hasDict = true := by
  obtain ⟨nm, q, N, bs, sn, sub, ab, col, dd, k0, k1, k2, k3, k5, h⟩ := T.xL
  refine ⟨{ name := nm, bases := bs, mro := line B C, ns := N, qualname := q, hasDict := true, slotNames := sn, subclasses := sub, abstract := ab, collection := col, hasDel := false }, ?_, rfl, rfl⟩
  unfold PySem.W.clsIn
  rw [h]
  rfl
theorem ClsFacts.sub (T : ClsFacts K B C f x fld) (v : Value) : PySem.W.subIn K (.ref C) v = some ((line B C).contains v) := by
  obtain ⟨cd, h1, h2, _⟩ := T.cls
  show PySem.W.mroIn K C v = _
  unfold PySem.W.mroIn
  rw [h1, Option.bind_some, h2]
  rfl
theorem ClsFacts.err (T : ClsFacts K B C f x fld) : ErrC K C where
  cls := by
    obtain ⟨nm, q, N, bs, sn, sub, ab, col, dd, k0, k1, k2, k3, k5, h⟩ := T.xL
    exact ⟨nm, q, N, bs, _, sn, sub, ab, col, dd, k0, k1, k2, k3, k5, h, [B], rfl⟩
  sa := T.sa
  exC := (T.sub _).trans (by rfl)
  tyC := T.tC
  kC := T.kC
theorem ClsFacts.has (T : ClsFacts K B C f x fld) : PySem.W.hasDictIn K C = true := by
  obtain ⟨cd, h1, _, h3⟩ := T.cls
  unfold PySem.W.hasDictIn
  rw [h1]
  exact h3
theorem ClsFacts.xf (T : ClsFacts K B C f x fld) : XfC K C := ⟨T.ga, T.gg, (T.sub _).trans (by rfl), T.has⟩
theorem ClsFacts.ask (T : ClsFacts K B C f x fld) (g1 : PySem.W.specialIn K (.builtin "object.__class__") "__get__" = some (some (.builtin "getset_descriptor.__get__"))) (g2 : PySem.W.takesIn K (.builtin "object.__class__") = some true) : AskC K C where
  cl := by
    obtain ⟨cd, h1, _⟩ := T.cls
    rw [h1]
    rfl
  ga := T.ga
  gg := T.gg
  exC := (T.sub _).trans (by rfl)
  cls := T.cc
  get := g1
  tak := g2
  obj := (T.sub _).trans (by rfl)
theorem ref_bne {a b : Addr} (h : a ≠ b) : (Value.ref a == Value.ref b) = false := by simp [h]
theorem kit_of_cls {D : Addr} {b : Bool} (h1 : (PySem.W.clsIn K D).isSome = true) (h2 : PySem.W.typeIn K (.ref D) = some (.type "type")) (h3 : PySem.W.subIn K (.ref C) (.ref D) = some b) (h4 : C = D → b = true) : PySem.W.kitOne K (.ref C) (.ref D) = some b := by
  unfold PySem.W.kitOne
  by_cases e : C = D
  · subst e
    rw [if_pos (by simp), h4 rfl]
  · rw [if_neg (by simp [e])]
    show (if ((PySem.W.clsIn K D).isSome && PySem.W.typeIn K (.ref D) == some (.type "type")) = true then PySem.W.subIn K (.ref C) (.ref D) else none) = _
    rw [h1, h2, if_pos (by rfl), h3]
theorem exm_of_cls {D : Addr} {b : Bool} (h0 : PySem.W.subIn K (.ref D) (.type "BaseException") = some true) (h1 : (PySem.W.clsIn K D).isSome = true) (h2 : PySem.W.typeIn K (.ref D) = some (.type "type")) (h3 : PySem.W.subIn K (.ref C) (.ref D) = some b) : PySem.W.exmOne K (.ref C) (.ref D) = some b := by
  unfold PySem.W.exmOne
  rw [h0, if_pos (by rfl)]
  show (if ((PySem.W.clsIn K D).isSome && PySem.W.typeIn K (.ref D) == some (.type "type")) = true then PySem.W.subIn K (.ref C) (.ref D) else none) = _
  rw [h1, h2, if_pos (by rfl), h3]
theorem ClsFacts.other (T : ClsFacts K B C f x fld) {D : Addr} (hB : D ≠ B) : PySem.W.subIn K (.ref C) (.ref D) = some (decide (C = D)) := by
  rw [T.sub]
  by_cases e : C = D
  · subst e
    simp [line]
  · have e2 : ¬ D = C := fun z => e z.symm
    simp [line, e, e2, hB]
end
/-- a written table with text keys -/
inductive Ent : List DictEntry → List (Str × V) → Prop
  | nil : Ent [] []
  | cons {h : Int} {x : Str} {t : Tok} {u : Value} {v : V} {l : List DictEntry} {m : List (Str × V)} (r : RelV v u) (e : Ent l m) : Ent (⟨h, .str x t, u⟩ :: l) ((x, v) :: m)
theorem isStr_eq (x z : Str) (t : Tok) : (Value.str x t).isStr z = decide (x = z) := by
  by_cases e : x = z
  · subst e
    simp [Value.isStr]
  · simp [Value.isStr, e]
theorem Ent.plain {l : List DictEntry} {m : List (Str × V)} (h : Ent l m) : l.any (·.refKey) = false := by
  induction h with
  | nil => rfl
  | cons r _ ih => rw [List.any_cons, ih]; rfl
theorem Ent.find {l : List DictEntry} {m : List (Str × V)} (h : Ent l m) (z : Str) : (m.find? (fun e => decide (e.1 = z)) = none ∧ l.find? (·.key.isStr z) = none) ∨ ∃ e d, m.find? (fun e => decide (e.1 = z)) = some e ∧ l.find? (·.key.isStr z) = some d ∧ RelV e.2 d.val := by
  induction h with
  | nil => exact .inl ⟨rfl, rfl⟩
  | @cons h x t u v l m r _ ih =>
    rw [List.find?_cons, List.find?_cons, isStr_eq]
    by_cases e : x = z
    · rw [decide_eq_true e]
      exact .inr ⟨_, _, rfl, rfl, r⟩
    · rw [decide_eq_false e]
      exact ih
theorem Ent.ns {K : PySem.W.Frag} {d : Addr} {es : Array DictEntry} {n : Nat} {m : List (Str × V)} (hl : K.lookup d = some ⟨.type "dict", none, .dict es n, #[]⟩) (h : Ent es.toList m) (z : Str) :
    (m.find? (fun e => decide (e.1 = z)) = none ∧ PySem.W.nsIn K d z = some none) ∨ ∃ e u, m.find? (fun e => decide (e.1 = z)) = some e ∧ PySem.W.nsIn K d z = some (some u) ∧ RelV e.2 u := by
  unfold PySem.W.nsIn
  rw [hl]
  rcases h.find z with ⟨h1, h2⟩ | ⟨e, dd, h1, h2, h3⟩
  · refine .inl ⟨h1, ?_⟩
    show (match es.toList.find? (·.key.isStr z) with
      | some e => some (some e.val)
      | none => if es.toList.any (·.refKey) then none else some none) = _
    rw [h2, h.plain]
    rfl
  · refine .inr ⟨e, dd.val, h1, ?_, h3⟩
    show (match es.toList.find? (·.key.isStr z) with
      | some e => some (some e.val)
      | none => if es.toList.any (·.refKey) then none else some none) = _
    rw [h2]

def unksV : List (Str × V) := [("free", .str "xy"), ("slide", .str "t")]
def makersV (mk : Wd → Addr) : List (Str × V) := wds.map fun d => (wdS d, V.ref (mk d))
theorem kw_self {K : PySem.W.Frag} {x qual : Str} {st : Stmt} {f : Addr} {fd : FuncData} {p q : Str} (F : Fun K x qual st f fd)
    (h : ∀ (kV doc pm : Value) (an : Option Addr) (cdv ct a b : Value), bindArgs (PySem.W.fnOf x qual (defArgs st) (defBody st) (defScope st) .none kV doc pm an cdv ct) ⟨[a], [(q, b)]⟩ = pure [(p, a), (q, b)]) : KBn K fd [p, q] 1 [q] (fun us ws => us ++ ws) (fun vs zs => vs ++ zs) := by
  obtain ⟨oc, od, kV, doc, pm, an, cdv, ct, osl, rfl, lk, hcd⟩ := F.ex
  refine ⟨fun s us ws X l1 l2 => ?_, fun r z => r.append z⟩
  match us, ws, l1, l2 with
  | [a], [b], _, _ => exact .of_eq (h kV doc pm an cdv ct a b)
theorem tab_of {K : PySem.W.Frag} {w : World} {d : Addr} {es : Array DictEntry} {n : Nat} {m : List (Str × V)} (hl : K.lookup d = some ⟨.type "dict", none, .dict es n, #[]⟩) (h : Ent es.toList m) (kl : PySem.W.KeysLit w.params es.toList) (lo : (d == sysModules) = false) : KTab K w d m := by
  refine ⟨⟨es, n, ⟨hl, kl, lo⟩, fun z => ?_⟩⟩
  rcases h.ns hl z with ⟨h1, h2⟩ | ⟨e, u, h1, h2, h3⟩
  · exact ⟨none, h2, .inl ⟨by unfold fnd; rw [h1]; rfl, rfl⟩⟩
  · exact ⟨some u, h2, .inr ⟨e.2, u, by unfold fnd; rw [h1]; rfl, rfl, h3⟩⟩
def mkOf (xfree xslide xpart xshift xturn xover xmirror xfoot xmeet xsecond xcentre : Addr) : Wd → Addr
  | .free => xfree
  | .slide => xslide
  | .part => xpart
  | .shift => xshift
  | .turn => xturn
  | .over => xover
  | .mirror => xmirror
  | .foot => xfoot
  | .meet => xmeet
  | .second => xsecond
  | .centre => xcentre
theorem all_mk {l : PySem.W.OpenLaw} {w : World} {K : PySem.W.Frag} {h : Heap} {mg : Str → Option Value} {fa B : Addr} (X : K.In h) (G : h.Ns mainGlobals mg) (hfa : mg "law" = some (.ref fa))
    {CV fV CS fS CI fI CM fM : Addr}
    {NxV : Addr} {nmxV qxV : Str} {bsxV subxV : List Value} {snxV : List Str} {abxV : Bool} {colxV : Option Bool} {ddxV odxV anxV : Option Addr} {mxVa mxVb mxVc mxVd mxVe : Option Value} {ocxV kVxV dcxV pmxV cdxV ctxV : Value} {slxV : Array (Option Value)}
    {NxS : Addr} {nmxS qxS : Str} {bsxS subxS : List Value} {snxS : List Str} {abxS : Bool} {colxS : Option Bool} {ddxS odxS anxS : Option Addr} {mxSa mxSb mxSc mxSd mxSe : Option Value} {ocxS kVxS dcxS pmxS cdxS ctxS : Value} {slxS : Array (Option Value)}
    {NxI : Addr} {nmxI qxI : Str} {bsxI subxI : List Value} {snxI : List Str} {abxI : Bool} {colxI : Option Bool} {ddxI odxI anxI : Option Addr} {mxIa mxIb mxIc mxId mxIe : Option Value} {ocxI kVxI dcxI pmxI cdxI ctxI : Value} {slxI : Array (Option Value)}
    {NxM : Addr} {nmxM qxM : Str} {bsxM subxM : List Value} {snxM : List Str} {abxM : Bool} {colxM : Option Bool} {ddxM odxM anxM : Option Addr} {mxMa mxMb mxMc mxMd mxMe : Option Value} {ocxM kVxM dcxM pmxM cdxM ctxM : Value} {slxM : Array (Option Value)}
    {tLets tFour tGr tP12 tU8 tRad : Tok}
    {dF dU dL dM : Addr} {eF eU eL eM : Array DictEntry} {nF nU nL nM : Nat}
    {CF : Addr}
    {Ffinit : Addr} {od_finit an_finit : Option Addr} {sl_finit : Array (Option Value)} {oc_finit kV_finit dc_finit pm_finit cd_finit ct_finit : Value}
    {Fkey : Addr} {od_key an_key : Option Addr} {sl_key : Array (Option Value)} {oc_key kV_key dc_key pm_key cd_key ct_key : Value}
    {CR : Addr}
    {Fr0 : Addr} {od_r0 an_r0 : Option Addr} {sl_r0 : Array (Option Value)} {oc_r0 kV_r0 dc_r0 pm_r0 cd_r0 ct_r0 : Value}
    {Fr1 : Addr} {od_r1 an_r1 : Option Addr} {sl_r1 : Array (Option Value)} {oc_r1 kV_r1 dc_r1 pm_r1 cd_r1 ct_r1 : Value}
    {Fr2 : Addr} {od_r2 an_r2 : Option Addr} {sl_r2 : Array (Option Value)} {oc_r2 kV_r2 dc_r2 pm_r2 cd_r2 ct_r2 : Value}
    {Fr3 : Addr} {od_r3 an_r3 : Option Addr} {sl_r3 : Array (Option Value)} {oc_r3 kV_r3 dc_r3 pm_r3 cd_r3 ct_r3 : Value}
    {Fr4 : Addr} {od_r4 an_r4 : Option Addr} {sl_r4 : Array (Option Value)} {oc_r4 kV_r4 dc_r4 pm_r4 cd_r4 ct_r4 : Value}
    {C : Addr}
    {Fcinit : Addr} {od_cinit an_cinit : Option Addr} {sl_cinit : Array (Option Value)} {oc_cinit kV_cinit dc_cinit pm_cinit cd_cinit ct_cinit : Value}
    {Fadd : Addr} {od_add an_add : Option Addr} {sl_add : Array (Option Value)} {oc_add kV_add dc_add pm_add cd_add ct_add : Value}
    {Fchk : Addr} {od_chk an_chk : Option Addr} {sl_chk : Array (Option Value)} {oc_chk kV_chk dc_chk pm_chk cd_chk ct_chk : Value}
    {Fsteps : Addr} {od_steps an_steps : Option Addr} {sl_steps : Array (Option Value)} {oc_steps kV_steps dc_steps pm_steps cd_steps ct_steps : Value}
    {Fpoints : Addr} {od_points an_points : Option Addr} {sl_points : Array (Option Value)} {oc_points kV_points dc_points pm_points cd_points ct_points : Value}
    {Funks : Addr} {od_unks an_unks : Option Addr} {sl_unks : Array (Option Value)} {oc_unks kV_unks dc_unks pm_unks cd_unks ct_unks : Value}
    {Fisint : Addr} {od_isint an_isint : Option Addr} {sl_isint : Array (Option Value)} {oc_isint kV_isint dc_isint pm_isint cd_isint ct_isint : Value}
    {Fisseq : Addr} {od_isseq an_isseq : Option Addr} {sl_isseq : Array (Option Value)} {oc_isseq kV_isseq dc_isseq pm_isseq cd_isseq ct_isseq : Value}
    {Fisname : Addr} {od_isname an_isname : Option Addr} {sl_isname : Array (Option Value)} {oc_isname kV_isname dc_isname pm_isname cd_isname ct_isname : Value}
    {Fformed : Addr} {od_formed an_formed : Option Addr} {sl_formed : Array (Option Value)} {oc_formed kV_formed dc_formed pm_formed cd_formed ct_formed : Value}
    {Fwrong : Addr} {od_wrong an_wrong : Option Addr} {sl_wrong : Array (Option Value)} {oc_wrong kV_wrong dc_wrong pm_wrong cd_wrong ct_wrong : Value}
    {Fmember : Addr} {od_member an_member : Option Addr} {sl_member : Array (Option Value)} {oc_member kV_member dc_member pm_member cd_member ct_member : Value}
    {Felders : Addr} {od_elders an_elders : Option Addr} {sl_elders : Array (Option Value)} {oc_elders kV_elders dc_elders pm_elders cd_elders ct_elders : Value}
    {Fnewunk : Addr} {od_newunk an_newunk : Option Addr} {sl_newunk : Array (Option Value)} {oc_newunk kV_newunk dc_newunk pm_newunk cd_newunk ct_newunk : Value}
    {Fdif : Addr} {od_dif an_dif : Option Addr} {sl_dif : Array (Option Value)} {oc_dif kV_dif dc_dif pm_dif cd_dif ct_dif : Value}
    {Fplaced : Addr} {od_placed an_placed : Option Addr} {sl_placed : Array (Option Value)} {oc_placed kV_placed dc_placed pm_placed cd_placed ct_placed : Value}
    {Fslid : Addr} {od_slid an_slid : Option Addr} {sl_slid : Array (Option Value)} {oc_slid kV_slid dc_slid pm_slid cd_slid ct_slid : Value}
    {Fparted : Addr} {od_parted an_parted : Option Addr} {sl_parted : Array (Option Value)} {oc_parted kV_parted dc_parted pm_parted cd_parted ct_parted : Value}
    {Fmoved : Addr} {od_moved an_moved : Option Addr} {sl_moved : Array (Option Value)} {oc_moved kV_moved dc_moved pm_moved cd_moved ct_moved : Value}
    {Fshifted : Addr} {od_shifted an_shifted : Option Addr} {sl_shifted : Array (Option Value)} {oc_shifted kV_shifted dc_shifted pm_shifted cd_shifted ct_shifted : Value}
    {Fturned : Addr} {od_turned an_turned : Option Addr} {sl_turned : Array (Option Value)} {oc_turned kV_turned dc_turned pm_turned cd_turned ct_turned : Value}
    {Fbeyond : Addr} {od_beyond an_beyond : Option Addr} {sl_beyond : Array (Option Value)} {oc_beyond kV_beyond dc_beyond pm_beyond cd_beyond ct_beyond : Value}
    {Ffoot : Addr} {od_foot an_foot : Option Addr} {sl_foot : Array (Option Value)} {oc_foot kV_foot dc_foot pm_foot cd_foot ct_foot : Value}
    {Fmirrored : Addr} {od_mirrored an_mirrored : Option Addr} {sl_mirrored : Array (Option Value)} {oc_mirrored kV_mirrored dc_mirrored pm_mirrored cd_mirrored ct_mirrored : Value}
    {Fsecond : Addr} {od_second an_second : Option Addr} {sl_second : Array (Option Value)} {oc_second kV_second dc_second pm_second cd_second ct_second : Value}
    {Fcrossed : Addr} {od_crossed an_crossed : Option Addr} {sl_crossed : Array (Option Value)} {oc_crossed kV_crossed dc_crossed pm_crossed cd_crossed ct_crossed : Value}
    {Fmeet : Addr} {od_meet an_meet : Option Addr} {sl_meet : Array (Option Value)} {oc_meet kV_meet dc_meet pm_meet cd_meet ct_meet : Value}
    {Fcentre : Addr} {od_centre an_centre : Option Addr} {sl_centre : Array (Option Value)} {oc_centre kV_centre dc_centre pm_centre cd_centre ct_centre : Value}
    {Fmade : Addr} {od_made an_made : Option Addr} {sl_made : Array (Option Value)} {oc_made kV_made dc_made pm_made cd_made ct_made : Value}
    {Fnumber : Addr} {od_number an_number : Option Addr} {sl_number : Array (Option Value)} {oc_number kV_number dc_number pm_number cd_number ct_number : Value}
    {Fscaled : Addr} {od_scaled an_scaled : Option Addr} {sl_scaled : Array (Option Value)} {oc_scaled kV_scaled dc_scaled pm_scaled cd_scaled ct_scaled : Value}
    {Fplus : Addr} {od_plus an_plus : Option Addr} {sl_plus : Array (Option Value)} {oc_plus kV_plus dc_plus pm_plus cd_plus ct_plus : Value}
    {Fminus : Addr} {od_minus an_minus : Option Addr} {sl_minus : Array (Option Value)} {oc_minus kV_minus dc_minus pm_minus cd_minus ct_minus : Value}
    {Ftimes : Addr} {od_times an_times : Option Addr} {sl_times : Array (Option Value)} {oc_times kV_times dc_times pm_times cd_times ct_times : Value}
    {Frow : Addr} {od_row an_row : Option Addr} {sl_row : Array (Option Value)} {oc_row kV_row dc_row pm_row cd_row ct_row : Value}
    {Fstart : Addr} {od_start an_start : Option Addr} {sl_start : Array (Option Value)} {oc_start kV_start dc_start pm_start cd_start ct_start : Value}
    {Fdraw : Addr} {od_draw an_draw : Option Addr} {sl_draw : Array (Option Value)} {oc_draw kV_draw dc_draw pm_draw cd_draw ct_draw : Value}
    {Fsame : Addr} {od_same an_same : Option Addr} {sl_same : Array (Option Value)} {oc_same kV_same dc_same pm_same cd_same ct_same : Value}
    {Fnames : Addr} {od_names an_names : Option Addr} {sl_names : Array (Option Value)} {oc_names kV_names dc_names pm_names cd_names ct_names : Value}
    {Fwords : Addr} {od_words an_words : Option Addr} {sl_words : Array (Option Value)} {oc_words kV_words dc_words pm_words cd_words ct_words : Value}
    {Flel : Addr} {od_lel an_lel : Option Addr} {sl_lel : Array (Option Value)} {oc_lel kV_lel dc_lel pm_lel cd_lel ct_lel : Value}
    {Flbt : Addr} {od_lbt an_lbt : Option Addr} {sl_lbt : Array (Option Value)} {oc_lbt kV_lbt dc_lbt pm_lbt cd_lbt ct_lbt : Value}
    {Flnm : Addr} {od_lnm an_lnm : Option Addr} {sl_lnm : Array (Option Value)} {oc_lnm kV_lnm dc_lnm pm_lnm cd_lnm ct_lnm : Value}
    {Ffault : Addr} {od_fault an_fault : Option Addr} {sl_fault : Array (Option Value)} {oc_fault kV_fault dc_fault pm_fault cd_fault ct_fault : Value}
    {Flight : Addr} {od_light an_light : Option Addr} {sl_light : Array (Option Value)} {oc_light kV_light dc_light pm_light cd_light ct_light : Value}
    {Flstep : Addr} {od_lstep an_lstep : Option Addr} {sl_lstep : Array (Option Value)} {oc_lstep kV_lstep dc_lstep pm_lstep cd_lstep ct_lstep : Value}
    {Fask : Addr} {od_ask an_ask : Option Addr} {sl_ask : Array (Option Value)} {oc_ask kV_ask dc_ask pm_ask cd_ask ct_ask : Value}
    {Fright : Addr} {od_right an_right : Option Addr} {sl_right : Array (Option Value)} {oc_right kV_right dc_right pm_right cd_right ct_right : Value}
    {Fspoilt : Addr} {od_spoilt an_spoilt : Option Addr} {sl_spoilt : Array (Option Value)} {oc_spoilt kV_spoilt dc_spoilt pm_spoilt cd_spoilt ct_spoilt : Value}
    {Fllet : Addr} {od_llet an_llet : Option Addr} {sl_llet : Array (Option Value)} {oc_llet kV_llet dc_llet pm_llet cd_llet ct_llet : Value}
    {Fref : Addr} {od_ref an_ref : Option Addr} {sl_ref : Array (Option Value)} {oc_ref kV_ref dc_ref pm_ref cd_ref ct_ref : Value}
    {Ffull : Addr} {od_full an_full : Option Addr} {sl_full : Array (Option Value)} {oc_full kV_full dc_full pm_full cd_full ct_full : Value}
    {Fadded : Addr} {od_added an_added : Option Addr} {sl_added : Array (Option Value)} {oc_added kV_added dc_added pm_added cd_added ct_added : Value}
    {Flaw : Addr} {od_law an_law : Option Addr} {sl_law : Array (Option Value)} {oc_law kV_law dc_law pm_law cd_law ct_law : Value}
    (axV : PySem.W.nsIn K mainGlobals "BadValue" = some (some (.ref CV)))
    (xxV : K.lookup CV = some (excClassObj nmxV qxV CV NxV bsxV [.ref B, .type "Exception", .type "BaseException", .type "object"] true snxV subxV abxV colxV ddxV mxVa mxVb mxVc mxVd mxVe "Exception.__new__"))
    (sxV : PySem.W.findIn K (.ref CV) "__setattr__" = some (some (.builtin "object.__setattr__")))
    (gxV : PySem.W.findIn K (.ref CV) "__getattribute__" = some (some (.builtin "BaseException.__getattribute__")))
    (hxV : PySem.W.findIn K (.ref CV) "__getattr__" = some none)
    (nxV : PySem.W.findIn K (.ref CV) "at" = some none)
    (cxV : PySem.W.findIn K (.ref CV) "__class__" = some (some (.builtin "object.__class__")))
    (ixV : PySem.W.findIn K (.ref CV) "__init__" = some (some (.ref fV)))
    (txV : PySem.W.typeIn K (.ref fV) = some (.type "function"))
    (lxV : K.lookup fV = some ⟨ocxV, odxV, .func (PySem.W.fnOf "__init__" "BadValue.__init__" (defArgs sBadValue) (defBody sBadValue) (defScope sBadValue) .none kVxV dcxV pmxV anxV cdxV ctxV), slxV⟩)
    (dxV : PySem.W.codeIn K cdxV "BadValue.__init__" = true)
    (kxV : PySem.W.keepIn K (.ref fV) = true)
    (kkxV : PySem.W.keepIn K (.ref CV) = true)
    (TxV : PySem.W.typeIn K (.ref CV) = some (.type "type"))
    (axS : PySem.W.nsIn K mainGlobals "BadStep" = some (some (.ref CS)))
    (xxS : K.lookup CS = some (excClassObj nmxS qxS CS NxS bsxS [.ref B, .type "Exception", .type "BaseException", .type "object"] true snxS subxS abxS colxS ddxS mxSa mxSb mxSc mxSd mxSe "Exception.__new__"))
    (sxS : PySem.W.findIn K (.ref CS) "__setattr__" = some (some (.builtin "object.__setattr__")))
    (gxS : PySem.W.findIn K (.ref CS) "__getattribute__" = some (some (.builtin "BaseException.__getattribute__")))
    (hxS : PySem.W.findIn K (.ref CS) "__getattr__" = some none)
    (nxS : PySem.W.findIn K (.ref CS) "at" = some none)
    (cxS : PySem.W.findIn K (.ref CS) "__class__" = some (some (.builtin "object.__class__")))
    (ixS : PySem.W.findIn K (.ref CS) "__init__" = some (some (.ref fS)))
    (txS : PySem.W.typeIn K (.ref fS) = some (.type "function"))
    (lxS : K.lookup fS = some ⟨ocxS, odxS, .func (PySem.W.fnOf "__init__" "BadStep.__init__" (defArgs sBadStep) (defBody sBadStep) (defScope sBadStep) .none kVxS dcxS pmxS anxS cdxS ctxS), slxS⟩)
    (dxS : PySem.W.codeIn K cdxS "BadStep.__init__" = true)
    (kxS : PySem.W.keepIn K (.ref fS) = true)
    (kkxS : PySem.W.keepIn K (.ref CS) = true)
    (TxS : PySem.W.typeIn K (.ref CS) = some (.type "type"))
    (axI : PySem.W.nsIn K mainGlobals "Impossible" = some (some (.ref CI)))
    (xxI : K.lookup CI = some (excClassObj nmxI qxI CI NxI bsxI [.ref B, .type "Exception", .type "BaseException", .type "object"] true snxI subxI abxI colxI ddxI mxIa mxIb mxIc mxId mxIe "Exception.__new__"))
    (sxI : PySem.W.findIn K (.ref CI) "__setattr__" = some (some (.builtin "object.__setattr__")))
    (gxI : PySem.W.findIn K (.ref CI) "__getattribute__" = some (some (.builtin "BaseException.__getattribute__")))
    (hxI : PySem.W.findIn K (.ref CI) "__getattr__" = some none)
    (nxI : PySem.W.findIn K (.ref CI) "name" = some none)
    (cxI : PySem.W.findIn K (.ref CI) "__class__" = some (some (.builtin "object.__class__")))
    (ixI : PySem.W.findIn K (.ref CI) "__init__" = some (some (.ref fI)))
    (txI : PySem.W.typeIn K (.ref fI) = some (.type "function"))
    (lxI : K.lookup fI = some ⟨ocxI, odxI, .func (PySem.W.fnOf "__init__" "Impossible.__init__" (defArgs sImpossible) (defBody sImpossible) (defScope sImpossible) .none kVxI dcxI pmxI anxI cdxI ctxI), slxI⟩)
    (dxI : PySem.W.codeIn K cdxI "Impossible.__init__" = true)
    (kxI : PySem.W.keepIn K (.ref fI) = true)
    (kkxI : PySem.W.keepIn K (.ref CI) = true)
    (TxI : PySem.W.typeIn K (.ref CI) = some (.type "type"))
    (axM : PySem.W.nsIn K mainGlobals "TooMany" = some (some (.ref CM)))
    (xxM : K.lookup CM = some (excClassObj nmxM qxM CM NxM bsxM [.ref B, .type "Exception", .type "BaseException", .type "object"] true snxM subxM abxM colxM ddxM mxMa mxMb mxMc mxMd mxMe "Exception.__new__"))
    (sxM : PySem.W.findIn K (.ref CM) "__setattr__" = some (some (.builtin "object.__setattr__")))
    (gxM : PySem.W.findIn K (.ref CM) "__getattribute__" = some (some (.builtin "BaseException.__getattribute__")))
    (hxM : PySem.W.findIn K (.ref CM) "__getattr__" = some none)
    (nxM : PySem.W.findIn K (.ref CM) "word" = some none)
    (cxM : PySem.W.findIn K (.ref CM) "__class__" = some (some (.builtin "object.__class__")))
    (ixM : PySem.W.findIn K (.ref CM) "__init__" = some (some (.ref fM)))
    (txM : PySem.W.typeIn K (.ref fM) = some (.type "function"))
    (lxM : K.lookup fM = some ⟨ocxM, odxM, .func (PySem.W.fnOf "__init__" "TooMany.__init__" (defArgs sTooMany) (defBody sTooMany) (defScope sTooMany) .none kVxM dcxM pmxM anxM cdxM ctxM), slxM⟩)
    (dxM : PySem.W.codeIn K cdxM "TooMany.__init__" = true)
    (kxM : PySem.W.keepIn K (.ref fM) = true)
    (kkxM : PySem.W.keepIn K (.ref CM) = true)
    (TxM : PySem.W.typeIn K (.ref CM) = some (.type "type"))
    (a_CF : PySem.W.nsIn K mainGlobals "Fields" = some (some (.ref CF)))
    (CF_pg : PySem.W.plainGet K CF Str.empty = true)
    (CF_hd : PySem.W.hasDictIn K CF = true)
    (CF_po : PySem.W.plainOver K CF = true)
    (CF_sa : PySem.W.findIn K (.ref CF) "__setattr__" = some (some (.builtin "object.__setattr__")))
    (CF_mk : PySem.W.makesIn K CF = true)
    (CF_kp : PySem.W.keepIn K (.ref CF) = true)
    (F_nN : PySem.W.findIn K (.ref CF) "names" = some none)
    (F_nW : PySem.W.findIn K (.ref CF) "weights" = some none)
    (F_nP : PySem.W.findIn K (.ref CF) "places" = some none)
    (a_finit : PySem.W.findIn K (.ref CF) "__init__" = some (some (.ref Ffinit)))
    (f_finit : PySem.W.isFn K (.ref Ffinit) = true)
    (l_finit : K.lookup Ffinit = some ⟨oc_finit, od_finit, .func (PySem.W.fnOf "__init__" "Fields.__init__" (defArgs sFInit) (defBody sFInit) (defScope sFInit) .none kV_finit dc_finit pm_finit an_finit cd_finit ct_finit), sl_finit⟩)
    (c_finit : PySem.W.codeIn K cd_finit "Fields.__init__" = true)
    (k_finit : PySem.W.keepIn K (.ref Ffinit) = true)
    (a_key : PySem.W.findIn K (.ref CF) "key" = some (some (.ref Fkey)))
    (f_key : PySem.W.isFn K (.ref Fkey) = true)
    (l_key : K.lookup Fkey = some ⟨oc_key, od_key, .func (PySem.W.fnOf "key" "Fields.key" (defArgs sKey) (defBody sKey) (defScope sKey) .none kV_key dc_key pm_key an_key cd_key ct_key), sl_key⟩)
    (c_key : PySem.W.codeIn K cd_key "Fields.key" = true)
    (k_key : PySem.W.keepIn K (.ref Fkey) = true)
    (a_CR : PySem.W.nsIn K mainGlobals "Tables" = some (some (.ref CR)))
    (CR_pg : PySem.W.plainGet K CR Str.empty = true)
    (CR_hd : PySem.W.hasDictIn K CR = true)
    (CR_po : PySem.W.plainOver K CR = true)
    (CR_sa : PySem.W.findIn K (.ref CR) "__setattr__" = some (some (.builtin "object.__setattr__")))
    (CR_mk : PySem.W.makesIn K CR = true)
    (CR_kp : PySem.W.keepIn K (.ref CR) = true)
    (CR_in : PySem.W.findIn K (.ref CR) "__init__" = some (some (.builtin "object.__init__")))
    (a_r0 : PySem.W.findIn K (.ref CR) "number" = some (some (.ref Fr0)))
    (f_r0 : PySem.W.isFn K (.ref Fr0) = true)
    (l_r0 : K.lookup Fr0 = some ⟨oc_r0, od_r0, .func (PySem.W.fnOf "number" "Tables.number" (defArgs (sRing 0)) (defBody (sRing 0)) (defScope (sRing 0)) .none kV_r0 dc_r0 pm_r0 an_r0 cd_r0 ct_r0), sl_r0⟩)
    (c_r0 : PySem.W.codeIn K cd_r0 "Tables.number" = true)
    (k_r0 : PySem.W.keepIn K (.ref Fr0) = true)
    (a_r1 : PySem.W.findIn K (.ref CR) "scaled" = some (some (.ref Fr1)))
    (f_r1 : PySem.W.isFn K (.ref Fr1) = true)
    (l_r1 : K.lookup Fr1 = some ⟨oc_r1, od_r1, .func (PySem.W.fnOf "scaled" "Tables.scaled" (defArgs (sRing 1)) (defBody (sRing 1)) (defScope (sRing 1)) .none kV_r1 dc_r1 pm_r1 an_r1 cd_r1 ct_r1), sl_r1⟩)
    (c_r1 : PySem.W.codeIn K cd_r1 "Tables.scaled" = true)
    (k_r1 : PySem.W.keepIn K (.ref Fr1) = true)
    (a_r2 : PySem.W.findIn K (.ref CR) "plus" = some (some (.ref Fr2)))
    (f_r2 : PySem.W.isFn K (.ref Fr2) = true)
    (l_r2 : K.lookup Fr2 = some ⟨oc_r2, od_r2, .func (PySem.W.fnOf "plus" "Tables.plus" (defArgs (sRing 2)) (defBody (sRing 2)) (defScope (sRing 2)) .none kV_r2 dc_r2 pm_r2 an_r2 cd_r2 ct_r2), sl_r2⟩)
    (c_r2 : PySem.W.codeIn K cd_r2 "Tables.plus" = true)
    (k_r2 : PySem.W.keepIn K (.ref Fr2) = true)
    (a_r3 : PySem.W.findIn K (.ref CR) "minus" = some (some (.ref Fr3)))
    (f_r3 : PySem.W.isFn K (.ref Fr3) = true)
    (l_r3 : K.lookup Fr3 = some ⟨oc_r3, od_r3, .func (PySem.W.fnOf "minus" "Tables.minus" (defArgs (sRing 3)) (defBody (sRing 3)) (defScope (sRing 3)) .none kV_r3 dc_r3 pm_r3 an_r3 cd_r3 ct_r3), sl_r3⟩)
    (c_r3 : PySem.W.codeIn K cd_r3 "Tables.minus" = true)
    (k_r3 : PySem.W.keepIn K (.ref Fr3) = true)
    (a_r4 : PySem.W.findIn K (.ref CR) "times" = some (some (.ref Fr4)))
    (f_r4 : PySem.W.isFn K (.ref Fr4) = true)
    (l_r4 : K.lookup Fr4 = some ⟨oc_r4, od_r4, .func (PySem.W.fnOf "times" "Tables.times" (defArgs (sRing 4)) (defBody (sRing 4)) (defScope (sRing 4)) .none kV_r4 dc_r4 pm_r4 an_r4 cd_r4 ct_r4), sl_r4⟩)
    (c_r4 : PySem.W.codeIn K cd_r4 "Tables.times" = true)
    (k_r4 : PySem.W.keepIn K (.ref Fr4) = true)
    (a_C : PySem.W.nsIn K mainGlobals "Construction" = some (some (.ref C)))
    (C_pg : PySem.W.plainGet K C Str.empty = true)
    (C_hd : PySem.W.hasDictIn K C = true)
    (C_po : PySem.W.plainOver K C = true)
    (C_sa : PySem.W.findIn K (.ref C) "__setattr__" = some (some (.builtin "object.__setattr__")))
    (C_mk : PySem.W.makesIn K C = true)
    (C_kp : PySem.W.keepIn K (.ref C) = true)
    (C_nS : PySem.W.findIn K (.ref C) "_steps" = some none)
    (C_nU : PySem.W.findIn K (.ref C) "_unknowns" = some none)
    (C_nT : PySem.W.findIn K (.ref C) "_triples" = some none)
    (a_cinit : PySem.W.findIn K (.ref C) "__init__" = some (some (.ref Fcinit)))
    (f_cinit : PySem.W.isFn K (.ref Fcinit) = true)
    (l_cinit : K.lookup Fcinit = some ⟨oc_cinit, od_cinit, .func (PySem.W.fnOf "__init__" "Construction.__init__" (defArgs sCInit) (defBody sCInit) (defScope sCInit) .none kV_cinit dc_cinit pm_cinit an_cinit cd_cinit ct_cinit), sl_cinit⟩)
    (c_cinit : PySem.W.codeIn K cd_cinit "Construction.__init__" = true)
    (k_cinit : PySem.W.keepIn K (.ref Fcinit) = true)
    (a_add : PySem.W.findIn K (.ref C) "add" = some (some (.ref Fadd)))
    (f_add : PySem.W.isFn K (.ref Fadd) = true)
    (l_add : K.lookup Fadd = some ⟨oc_add, od_add, .func (PySem.W.fnOf "add" "Construction.add" (defArgs sAdd) (defBody sAdd) (defScope sAdd) .none kV_add dc_add pm_add an_add cd_add ct_add), sl_add⟩)
    (c_add : PySem.W.codeIn K cd_add "Construction.add" = true)
    (k_add : PySem.W.keepIn K (.ref Fadd) = true)
    (a_chk : PySem.W.findIn K (.ref C) "_checked" = some (some (.ref Fchk)))
    (f_chk : PySem.W.isFn K (.ref Fchk) = true)
    (l_chk : K.lookup Fchk = some ⟨oc_chk, od_chk, .func (PySem.W.fnOf "_checked" "Construction._checked" (defArgs sChk) (defBody sChk) (defScope sChk) .none kV_chk dc_chk pm_chk an_chk cd_chk ct_chk), sl_chk⟩)
    (c_chk : PySem.W.codeIn K cd_chk "Construction._checked" = true)
    (k_chk : PySem.W.keepIn K (.ref Fchk) = true)
    (a_steps : PySem.W.findIn K (.ref C) "steps" = some (some (.ref Fsteps)))
    (f_steps : PySem.W.isFn K (.ref Fsteps) = true)
    (l_steps : K.lookup Fsteps = some ⟨oc_steps, od_steps, .func (PySem.W.fnOf "steps" "Construction.steps" (defArgs sSteps) (defBody sSteps) (defScope sSteps) .none kV_steps dc_steps pm_steps an_steps cd_steps ct_steps), sl_steps⟩)
    (c_steps : PySem.W.codeIn K cd_steps "Construction.steps" = true)
    (k_steps : PySem.W.keepIn K (.ref Fsteps) = true)
    (a_points : PySem.W.findIn K (.ref C) "points" = some (some (.ref Fpoints)))
    (f_points : PySem.W.isFn K (.ref Fpoints) = true)
    (l_points : K.lookup Fpoints = some ⟨oc_points, od_points, .func (PySem.W.fnOf "points" "Construction.points" (defArgs sPoints) (defBody sPoints) (defScope sPoints) .none kV_points dc_points pm_points an_points cd_points ct_points), sl_points⟩)
    (c_points : PySem.W.codeIn K cd_points "Construction.points" = true)
    (k_points : PySem.W.keepIn K (.ref Fpoints) = true)
    (a_unks : PySem.W.findIn K (.ref C) "unknowns" = some (some (.ref Funks)))
    (f_unks : PySem.W.isFn K (.ref Funks) = true)
    (l_unks : K.lookup Funks = some ⟨oc_unks, od_unks, .func (PySem.W.fnOf "unknowns" "Construction.unknowns" (defArgs sUnks) (defBody sUnks) (defScope sUnks) .none kV_unks dc_unks pm_unks an_unks cd_unks ct_unks), sl_unks⟩)
    (c_unks : PySem.W.codeIn K cd_unks "Construction.unknowns" = true)
    (k_unks : PySem.W.keepIn K (.ref Funks) = true)
    (a_isint : PySem.W.nsIn K mainGlobals "is_integer" = some (some (.ref Fisint)))
    (l_isint : K.lookup Fisint = some ⟨oc_isint, od_isint, .func (PySem.W.fnOf "is_integer" "is_integer" (defArgs sIsInt) (defBody sIsInt) (defScope sIsInt) .none kV_isint dc_isint pm_isint an_isint cd_isint ct_isint), sl_isint⟩)
    (c_isint : PySem.W.codeIn K cd_isint "is_integer" = true)
    (k_isint : PySem.W.keepIn K (.ref Fisint) = true)
    (a_isseq : PySem.W.nsIn K mainGlobals "is_sequence" = some (some (.ref Fisseq)))
    (l_isseq : K.lookup Fisseq = some ⟨oc_isseq, od_isseq, .func (PySem.W.fnOf "is_sequence" "is_sequence" (defArgs sIsSeq) (defBody sIsSeq) (defScope sIsSeq) .none kV_isseq dc_isseq pm_isseq an_isseq cd_isseq ct_isseq), sl_isseq⟩)
    (c_isseq : PySem.W.codeIn K cd_isseq "is_sequence" = true)
    (k_isseq : PySem.W.keepIn K (.ref Fisseq) = true)
    (a_isname : PySem.W.nsIn K mainGlobals "is_name" = some (some (.ref Fisname)))
    (l_isname : K.lookup Fisname = some ⟨oc_isname, od_isname, .func (PySem.W.fnOf "is_name" "is_name" (defArgs sIsName) (defBody sIsName) (defScope sIsName) .none kV_isname dc_isname pm_isname an_isname cd_isname ct_isname), sl_isname⟩)
    (c_isname : PySem.W.codeIn K cd_isname "is_name" = true)
    (k_isname : PySem.W.keepIn K (.ref Fisname) = true)
    (a_formed : PySem.W.nsIn K mainGlobals "is_formed" = some (some (.ref Fformed)))
    (l_formed : K.lookup Fformed = some ⟨oc_formed, od_formed, .func (PySem.W.fnOf "is_formed" "is_formed" (defArgs sFormed) (defBody sFormed) (defScope sFormed) .none kV_formed dc_formed pm_formed an_formed cd_formed ct_formed), sl_formed⟩)
    (c_formed : PySem.W.codeIn K cd_formed "is_formed" = true)
    (k_formed : PySem.W.keepIn K (.ref Fformed) = true)
    (a_wrong : PySem.W.nsIn K mainGlobals "wrong_behind_name" = some (some (.ref Fwrong)))
    (l_wrong : K.lookup Fwrong = some ⟨oc_wrong, od_wrong, .func (PySem.W.fnOf "wrong_behind_name" "wrong_behind_name" (defArgs sWrong) (defBody sWrong) (defScope sWrong) .none kV_wrong dc_wrong pm_wrong an_wrong cd_wrong ct_wrong), sl_wrong⟩)
    (c_wrong : PySem.W.codeIn K cd_wrong "wrong_behind_name" = true)
    (k_wrong : PySem.W.keepIn K (.ref Fwrong) = true)
    (a_member : PySem.W.nsIn K mainGlobals "_is_member" = some (some (.ref Fmember)))
    (l_member : K.lookup Fmember = some ⟨oc_member, od_member, .func (PySem.W.fnOf "_is_member" "_is_member" (defArgs sMember) (defBody sMember) (defScope sMember) .none kV_member dc_member pm_member an_member cd_member ct_member), sl_member⟩)
    (c_member : PySem.W.codeIn K cd_member "_is_member" = true)
    (k_member : PySem.W.keepIn K (.ref Fmember) = true)
    (a_elders : PySem.W.nsIn K mainGlobals "elders" = some (some (.ref Felders)))
    (l_elders : K.lookup Felders = some ⟨oc_elders, od_elders, .func (PySem.W.fnOf "elders" "elders" (defArgs sElders) (defBody sElders) (defScope sElders) .none kV_elders dc_elders pm_elders an_elders cd_elders ct_elders), sl_elders⟩)
    (c_elders : PySem.W.codeIn K cd_elders "elders" = true)
    (k_elders : PySem.W.keepIn K (.ref Felders) = true)
    (a_newunk : PySem.W.nsIn K mainGlobals "new_unknowns" = some (some (.ref Fnewunk)))
    (l_newunk : K.lookup Fnewunk = some ⟨oc_newunk, od_newunk, .func (PySem.W.fnOf "new_unknowns" "new_unknowns" (defArgs sNewUnk) (defBody sNewUnk) (defScope sNewUnk) .none kV_newunk dc_newunk pm_newunk an_newunk cd_newunk ct_newunk), sl_newunk⟩)
    (c_newunk : PySem.W.codeIn K cd_newunk "new_unknowns" = true)
    (k_newunk : PySem.W.keepIn K (.ref Fnewunk) = true)
    (a_dif : PySem.W.nsIn K mainGlobals "difference" = some (some (.ref Fdif)))
    (l_dif : K.lookup Fdif = some ⟨oc_dif, od_dif, .func (PySem.W.fnOf "difference" "difference" (defArgs sDif) (defBody sDif) (defScope sDif) .none kV_dif dc_dif pm_dif an_dif cd_dif ct_dif), sl_dif⟩)
    (c_dif : PySem.W.codeIn K cd_dif "difference" = true)
    (k_dif : PySem.W.keepIn K (.ref Fdif) = true)
    (a_placed : PySem.W.nsIn K mainGlobals "placed" = some (some (.ref Fplaced)))
    (l_placed : K.lookup Fplaced = some ⟨oc_placed, od_placed, .func (PySem.W.fnOf "placed" "placed" (defArgs sPlaced) (defBody sPlaced) (defScope sPlaced) .none kV_placed dc_placed pm_placed an_placed cd_placed ct_placed), sl_placed⟩)
    (c_placed : PySem.W.codeIn K cd_placed "placed" = true)
    (k_placed : PySem.W.keepIn K (.ref Fplaced) = true)
    (a_slid : PySem.W.nsIn K mainGlobals "slid" = some (some (.ref Fslid)))
    (l_slid : K.lookup Fslid = some ⟨oc_slid, od_slid, .func (PySem.W.fnOf "slid" "slid" (defArgs sSlid) (defBody sSlid) (defScope sSlid) .none kV_slid dc_slid pm_slid an_slid cd_slid ct_slid), sl_slid⟩)
    (c_slid : PySem.W.codeIn K cd_slid "slid" = true)
    (k_slid : PySem.W.keepIn K (.ref Fslid) = true)
    (a_parted : PySem.W.nsIn K mainGlobals "parted" = some (some (.ref Fparted)))
    (l_parted : K.lookup Fparted = some ⟨oc_parted, od_parted, .func (PySem.W.fnOf "parted" "parted" (defArgs sParted) (defBody sParted) (defScope sParted) .none kV_parted dc_parted pm_parted an_parted cd_parted ct_parted), sl_parted⟩)
    (c_parted : PySem.W.codeIn K cd_parted "parted" = true)
    (k_parted : PySem.W.keepIn K (.ref Fparted) = true)
    (a_moved : PySem.W.nsIn K mainGlobals "_moved" = some (some (.ref Fmoved)))
    (l_moved : K.lookup Fmoved = some ⟨oc_moved, od_moved, .func (PySem.W.fnOf "_moved" "_moved" (defArgs sMoved) (defBody sMoved) (defScope sMoved) .none kV_moved dc_moved pm_moved an_moved cd_moved ct_moved), sl_moved⟩)
    (c_moved : PySem.W.codeIn K cd_moved "_moved" = true)
    (k_moved : PySem.W.keepIn K (.ref Fmoved) = true)
    (a_shifted : PySem.W.nsIn K mainGlobals "shifted" = some (some (.ref Fshifted)))
    (l_shifted : K.lookup Fshifted = some ⟨oc_shifted, od_shifted, .func (PySem.W.fnOf "shifted" "shifted" (defArgs sShifted) (defBody sShifted) (defScope sShifted) .none kV_shifted dc_shifted pm_shifted an_shifted cd_shifted ct_shifted), sl_shifted⟩)
    (c_shifted : PySem.W.codeIn K cd_shifted "shifted" = true)
    (k_shifted : PySem.W.keepIn K (.ref Fshifted) = true)
    (a_turned : PySem.W.nsIn K mainGlobals "turned" = some (some (.ref Fturned)))
    (l_turned : K.lookup Fturned = some ⟨oc_turned, od_turned, .func (PySem.W.fnOf "turned" "turned" (defArgs sTurned) (defBody sTurned) (defScope sTurned) .none kV_turned dc_turned pm_turned an_turned cd_turned ct_turned), sl_turned⟩)
    (c_turned : PySem.W.codeIn K cd_turned "turned" = true)
    (k_turned : PySem.W.keepIn K (.ref Fturned) = true)
    (a_beyond : PySem.W.nsIn K mainGlobals "beyond" = some (some (.ref Fbeyond)))
    (l_beyond : K.lookup Fbeyond = some ⟨oc_beyond, od_beyond, .func (PySem.W.fnOf "beyond" "beyond" (defArgs sBeyond) (defBody sBeyond) (defScope sBeyond) .none kV_beyond dc_beyond pm_beyond an_beyond cd_beyond ct_beyond), sl_beyond⟩)
    (c_beyond : PySem.W.codeIn K cd_beyond "beyond" = true)
    (k_beyond : PySem.W.keepIn K (.ref Fbeyond) = true)
    (a_foot : PySem.W.nsIn K mainGlobals "foot" = some (some (.ref Ffoot)))
    (l_foot : K.lookup Ffoot = some ⟨oc_foot, od_foot, .func (PySem.W.fnOf "foot" "foot" (defArgs sFoot) (defBody sFoot) (defScope sFoot) .none kV_foot dc_foot pm_foot an_foot cd_foot ct_foot), sl_foot⟩)
    (c_foot : PySem.W.codeIn K cd_foot "foot" = true)
    (k_foot : PySem.W.keepIn K (.ref Ffoot) = true)
    (a_mirrored : PySem.W.nsIn K mainGlobals "mirrored" = some (some (.ref Fmirrored)))
    (l_mirrored : K.lookup Fmirrored = some ⟨oc_mirrored, od_mirrored, .func (PySem.W.fnOf "mirrored" "mirrored" (defArgs sMirrored) (defBody sMirrored) (defScope sMirrored) .none kV_mirrored dc_mirrored pm_mirrored an_mirrored cd_mirrored ct_mirrored), sl_mirrored⟩)
    (c_mirrored : PySem.W.codeIn K cd_mirrored "mirrored" = true)
    (k_mirrored : PySem.W.keepIn K (.ref Fmirrored) = true)
    (a_second : PySem.W.nsIn K mainGlobals "second" = some (some (.ref Fsecond)))
    (l_second : K.lookup Fsecond = some ⟨oc_second, od_second, .func (PySem.W.fnOf "second" "second" (defArgs sSecond) (defBody sSecond) (defScope sSecond) .none kV_second dc_second pm_second an_second cd_second ct_second), sl_second⟩)
    (c_second : PySem.W.codeIn K cd_second "second" = true)
    (k_second : PySem.W.keepIn K (.ref Fsecond) = true)
    (a_crossed : PySem.W.nsIn K mainGlobals "crossed" = some (some (.ref Fcrossed)))
    (l_crossed : K.lookup Fcrossed = some ⟨oc_crossed, od_crossed, .func (PySem.W.fnOf "crossed" "crossed" (defArgs sCrossed) (defBody sCrossed) (defScope sCrossed) .none kV_crossed dc_crossed pm_crossed an_crossed cd_crossed ct_crossed), sl_crossed⟩)
    (c_crossed : PySem.W.codeIn K cd_crossed "crossed" = true)
    (k_crossed : PySem.W.keepIn K (.ref Fcrossed) = true)
    (a_meet : PySem.W.nsIn K mainGlobals "meet" = some (some (.ref Fmeet)))
    (l_meet : K.lookup Fmeet = some ⟨oc_meet, od_meet, .func (PySem.W.fnOf "meet" "meet" (defArgs sMeet) (defBody sMeet) (defScope sMeet) .none kV_meet dc_meet pm_meet an_meet cd_meet ct_meet), sl_meet⟩)
    (c_meet : PySem.W.codeIn K cd_meet "meet" = true)
    (k_meet : PySem.W.keepIn K (.ref Fmeet) = true)
    (a_centre : PySem.W.nsIn K mainGlobals "centre" = some (some (.ref Fcentre)))
    (l_centre : K.lookup Fcentre = some ⟨oc_centre, od_centre, .func (PySem.W.fnOf "centre" "centre" (defArgs sCentre) (defBody sCentre) (defScope sCentre) .none kV_centre dc_centre pm_centre an_centre cd_centre ct_centre), sl_centre⟩)
    (c_centre : PySem.W.codeIn K cd_centre "centre" = true)
    (k_centre : PySem.W.keepIn K (.ref Fcentre) = true)
    (a_made : PySem.W.nsIn K mainGlobals "made" = some (some (.ref Fmade)))
    (l_made : K.lookup Fmade = some ⟨oc_made, od_made, .func (PySem.W.fnOf "made" "made" (defArgs sMade) (defBody sMade) (defScope sMade) .none kV_made dc_made pm_made an_made cd_made ct_made), sl_made⟩)
    (c_made : PySem.W.codeIn K cd_made "made" = true)
    (k_made : PySem.W.keepIn K (.ref Fmade) = true)
    (a_number : PySem.W.nsIn K mainGlobals "number_tables" = some (some (.ref Fnumber)))
    (l_number : K.lookup Fnumber = some ⟨oc_number, od_number, .func (PySem.W.fnOf "number" "number" (defArgs sNumber) (defBody sNumber) (defScope sNumber) .none kV_number dc_number pm_number an_number cd_number ct_number), sl_number⟩)
    (c_number : PySem.W.codeIn K cd_number "number" = true)
    (k_number : PySem.W.keepIn K (.ref Fnumber) = true)
    (a_scaled : PySem.W.nsIn K mainGlobals "scaled_tables" = some (some (.ref Fscaled)))
    (l_scaled : K.lookup Fscaled = some ⟨oc_scaled, od_scaled, .func (PySem.W.fnOf "scaled" "scaled" (defArgs sScaled) (defBody sScaled) (defScope sScaled) .none kV_scaled dc_scaled pm_scaled an_scaled cd_scaled ct_scaled), sl_scaled⟩)
    (c_scaled : PySem.W.codeIn K cd_scaled "scaled" = true)
    (k_scaled : PySem.W.keepIn K (.ref Fscaled) = true)
    (a_plus : PySem.W.nsIn K mainGlobals "plus_tables" = some (some (.ref Fplus)))
    (l_plus : K.lookup Fplus = some ⟨oc_plus, od_plus, .func (PySem.W.fnOf "plus" "plus" (defArgs sPlus) (defBody sPlus) (defScope sPlus) .none kV_plus dc_plus pm_plus an_plus cd_plus ct_plus), sl_plus⟩)
    (c_plus : PySem.W.codeIn K cd_plus "plus" = true)
    (k_plus : PySem.W.keepIn K (.ref Fplus) = true)
    (a_minus : PySem.W.nsIn K mainGlobals "minus_tables" = some (some (.ref Fminus)))
    (l_minus : K.lookup Fminus = some ⟨oc_minus, od_minus, .func (PySem.W.fnOf "minus" "minus" (defArgs sMinus) (defBody sMinus) (defScope sMinus) .none kV_minus dc_minus pm_minus an_minus cd_minus ct_minus), sl_minus⟩)
    (c_minus : PySem.W.codeIn K cd_minus "minus" = true)
    (k_minus : PySem.W.keepIn K (.ref Fminus) = true)
    (a_times : PySem.W.nsIn K mainGlobals "times_tables" = some (some (.ref Ftimes)))
    (l_times : K.lookup Ftimes = some ⟨oc_times, od_times, .func (PySem.W.fnOf "times" "times" (defArgs sTimes) (defBody sTimes) (defScope sTimes) .none kV_times dc_times pm_times an_times cd_times ct_times), sl_times⟩)
    (c_times : PySem.W.codeIn K cd_times "times" = true)
    (k_times : PySem.W.keepIn K (.ref Ftimes) = true)
    (a_row : PySem.W.nsIn K mainGlobals "_add_row" = some (some (.ref Frow)))
    (l_row : K.lookup Frow = some ⟨oc_row, od_row, .func (PySem.W.fnOf "_add_row" "_add_row" (defArgs sRow) (defBody sRow) (defScope sRow) .none kV_row dc_row pm_row an_row cd_row ct_row), sl_row⟩)
    (c_row : PySem.W.codeIn K cd_row "_add_row" = true)
    (k_row : PySem.W.keepIn K (.ref Frow) = true)
    (a_start : PySem.W.nsIn K mainGlobals "_law_start" = some (some (.ref Fstart)))
    (l_start : K.lookup Fstart = some ⟨oc_start, od_start, .func (PySem.W.fnOf "_law_start" "_law_start" (defArgs sStart) (defBody sStart) (defScope sStart) .none kV_start dc_start pm_start an_start cd_start ct_start), sl_start⟩)
    (c_start : PySem.W.codeIn K cd_start "_law_start" = true)
    (k_start : PySem.W.keepIn K (.ref Fstart) = true)
    (a_draw : PySem.W.nsIn K mainGlobals "_law_draw" = some (some (.ref Fdraw)))
    (l_draw : K.lookup Fdraw = some ⟨oc_draw, od_draw, .func (PySem.W.fnOf "_law_draw" "_law_draw" (defArgs sDraw) (defBody sDraw) (defScope sDraw) .none kV_draw dc_draw pm_draw an_draw cd_draw ct_draw), sl_draw⟩)
    (c_draw : PySem.W.codeIn K cd_draw "_law_draw" = true)
    (k_draw : PySem.W.keepIn K (.ref Fdraw) = true)
    (a_same : PySem.W.nsIn K mainGlobals "_law_same" = some (some (.ref Fsame)))
    (l_same : K.lookup Fsame = some ⟨oc_same, od_same, .func (PySem.W.fnOf "_law_same" "_law_same" (defArgs sSame) (defBody sSame) (defScope sSame) .none kV_same dc_same pm_same an_same cd_same ct_same), sl_same⟩)
    (c_same : PySem.W.codeIn K cd_same "_law_same" = true)
    (k_same : PySem.W.keepIn K (.ref Fsame) = true)
    (a_names : PySem.W.nsIn K mainGlobals "_law_names" = some (some (.ref Fnames)))
    (l_names : K.lookup Fnames = some ⟨oc_names, od_names, .func (PySem.W.fnOf "_law_names" "_law_names" (defArgs sNames) (defBody sNames) (defScope sNames) .none kV_names dc_names pm_names an_names cd_names ct_names), sl_names⟩)
    (c_names : PySem.W.codeIn K cd_names "_law_names" = true)
    (k_names : PySem.W.keepIn K (.ref Fnames) = true)
    (a_words : PySem.W.nsIn K mainGlobals "_law_words" = some (some (.ref Fwords)))
    (l_words : K.lookup Fwords = some ⟨oc_words, od_words, .func (PySem.W.fnOf "_law_words" "_law_words" (defArgs sWords) (defBody sWords) (defScope sWords) .none kV_words dc_words pm_words an_words cd_words ct_words), sl_words⟩)
    (c_words : PySem.W.codeIn K cd_words "_law_words" = true)
    (k_words : PySem.W.keepIn K (.ref Fwords) = true)
    (a_lel : PySem.W.nsIn K mainGlobals "_law_elders" = some (some (.ref Flel)))
    (l_lel : K.lookup Flel = some ⟨oc_lel, od_lel, .func (PySem.W.fnOf "_law_elders" "_law_elders" (defArgs sLEl) (defBody sLEl) (defScope sLEl) .none kV_lel dc_lel pm_lel an_lel cd_lel ct_lel), sl_lel⟩)
    (c_lel : PySem.W.codeIn K cd_lel "_law_elders" = true)
    (k_lel : PySem.W.keepIn K (.ref Flel) = true)
    (a_lbt : PySem.W.nsIn K mainGlobals "_law_is_between" = some (some (.ref Flbt)))
    (l_lbt : K.lookup Flbt = some ⟨oc_lbt, od_lbt, .func (PySem.W.fnOf "_law_is_between" "_law_is_between" (defArgs sLBt) (defBody sLBt) (defScope sLBt) .none kV_lbt dc_lbt pm_lbt an_lbt cd_lbt ct_lbt), sl_lbt⟩)
    (c_lbt : PySem.W.codeIn K cd_lbt "_law_is_between" = true)
    (k_lbt : PySem.W.keepIn K (.ref Flbt) = true)
    (a_lnm : PySem.W.nsIn K mainGlobals "_law_is_name" = some (some (.ref Flnm)))
    (l_lnm : K.lookup Flnm = some ⟨oc_lnm, od_lnm, .func (PySem.W.fnOf "_law_is_name" "_law_is_name" (defArgs sLNm) (defBody sLNm) (defScope sLNm) .none kV_lnm dc_lnm pm_lnm an_lnm cd_lnm ct_lnm), sl_lnm⟩)
    (c_lnm : PySem.W.codeIn K cd_lnm "_law_is_name" = true)
    (k_lnm : PySem.W.keepIn K (.ref Flnm) = true)
    (a_fault : PySem.W.nsIn K mainGlobals "_law_fault" = some (some (.ref Ffault)))
    (l_fault : K.lookup Ffault = some ⟨oc_fault, od_fault, .func (PySem.W.fnOf "_law_fault" "_law_fault" (defArgs sLFault) (defBody sLFault) (defScope sLFault) .none kV_fault dc_fault pm_fault an_fault cd_fault ct_fault), sl_fault⟩)
    (c_fault : PySem.W.codeIn K cd_fault "_law_fault" = true)
    (k_fault : PySem.W.keepIn K (.ref Ffault) = true)
    (a_light : PySem.W.nsIn K mainGlobals "_law_light" = some (some (.ref Flight)))
    (l_light : K.lookup Flight = some ⟨oc_light, od_light, .func (PySem.W.fnOf "_law_light" "_law_light" (defArgs sLight) (defBody sLight) (defScope sLight) .none kV_light dc_light pm_light an_light cd_light ct_light), sl_light⟩)
    (c_light : PySem.W.codeIn K cd_light "_law_light" = true)
    (k_light : PySem.W.keepIn K (.ref Flight) = true)
    (a_lstep : PySem.W.nsIn K mainGlobals "_law_step" = some (some (.ref Flstep)))
    (l_lstep : K.lookup Flstep = some ⟨oc_lstep, od_lstep, .func (PySem.W.fnOf "_law_step" "_law_step" (defArgs sStep) (defBody sStep) (defScope sStep) .none kV_lstep dc_lstep pm_lstep an_lstep cd_lstep ct_lstep), sl_lstep⟩)
    (c_lstep : PySem.W.codeIn K cd_lstep "_law_step" = true)
    (k_lstep : PySem.W.keepIn K (.ref Flstep) = true)
    (a_ask : PySem.W.nsIn K mainGlobals "_law_asked" = some (some (.ref Fask)))
    (l_ask : K.lookup Fask = some ⟨oc_ask, od_ask, .func (PySem.W.fnOf "_law_asked" "_law_asked" (defArgs sAsk) (defBody sAsk) (defScope sAsk) .none kV_ask dc_ask pm_ask an_ask cd_ask ct_ask), sl_ask⟩)
    (c_ask : PySem.W.codeIn K cd_ask "_law_asked" = true)
    (k_ask : PySem.W.keepIn K (.ref Fask) = true)
    (a_right : PySem.W.nsIn K mainGlobals "_law_state_right" = some (some (.ref Fright)))
    (l_right : K.lookup Fright = some ⟨oc_right, od_right, .func (PySem.W.fnOf "_law_state_right" "_law_state_right" (defArgs sRight) (defBody sRight) (defScope sRight) .none kV_right dc_right pm_right an_right cd_right ct_right), sl_right⟩)
    (c_right : PySem.W.codeIn K cd_right "_law_state_right" = true)
    (k_right : PySem.W.keepIn K (.ref Fright) = true)
    (a_spoilt : PySem.W.nsIn K mainGlobals "_law_spoilt" = some (some (.ref Fspoilt)))
    (l_spoilt : K.lookup Fspoilt = some ⟨oc_spoilt, od_spoilt, .func (PySem.W.fnOf "_law_spoilt" "_law_spoilt" (defArgs sSpoilt) (defBody sSpoilt) (defScope sSpoilt) .none kV_spoilt dc_spoilt pm_spoilt an_spoilt cd_spoilt ct_spoilt), sl_spoilt⟩)
    (c_spoilt : PySem.W.codeIn K cd_spoilt "_law_spoilt" = true)
    (k_spoilt : PySem.W.keepIn K (.ref Fspoilt) = true)
    (a_llet : PySem.W.nsIn K mainGlobals "_law_letters" = some (some (.ref Fllet)))
    (l_llet : K.lookup Fllet = some ⟨oc_llet, od_llet, .func (PySem.W.fnOf "_law_letters" "_law_letters" (defArgs sLLet) (defBody sLLet) (defScope sLLet) .none kV_llet dc_llet pm_llet an_llet cd_llet ct_llet), sl_llet⟩)
    (c_llet : PySem.W.codeIn K cd_llet "_law_letters" = true)
    (k_llet : PySem.W.keepIn K (.ref Fllet) = true)
    (a_ref : PySem.W.nsIn K mainGlobals "_law_refused" = some (some (.ref Fref)))
    (l_ref : K.lookup Fref = some ⟨oc_ref, od_ref, .func (PySem.W.fnOf "_law_refused" "_law_refused" (defArgs sRef) (defBody sRef) (defScope sRef) .none kV_ref dc_ref pm_ref an_ref cd_ref ct_ref), sl_ref⟩)
    (c_ref : PySem.W.codeIn K cd_ref "_law_refused" = true)
    (k_ref : PySem.W.keepIn K (.ref Fref) = true)
    (a_full : PySem.W.nsIn K mainGlobals "_law_full" = some (some (.ref Ffull)))
    (l_full : K.lookup Ffull = some ⟨oc_full, od_full, .func (PySem.W.fnOf "_law_full" "_law_full" (defArgs sFull) (defBody sFull) (defScope sFull) .none kV_full dc_full pm_full an_full cd_full ct_full), sl_full⟩)
    (c_full : PySem.W.codeIn K cd_full "_law_full" = true)
    (k_full : PySem.W.keepIn K (.ref Ffull) = true)
    (a_added : PySem.W.nsIn K mainGlobals "_law_added" = some (some (.ref Fadded)))
    (l_added : K.lookup Fadded = some ⟨oc_added, od_added, .func (PySem.W.fnOf "_law_added" "_law_added" (defArgs sAdded) (defBody sAdded) (defScope sAdded) .none kV_added dc_added pm_added an_added cd_added ct_added), sl_added⟩)
    (c_added : PySem.W.codeIn K cd_added "_law_added" = true)
    (k_added : PySem.W.keepIn K (.ref Fadded) = true)
    (a_law : PySem.W.nsIn K mainGlobals "law" = some (some (.ref Flaw)))
    (l_law : K.lookup Flaw = some ⟨oc_law, od_law, .func (PySem.W.fnOf "law" "law" (defArgs sLaw) (defBody sLaw) (defScope sLaw) .none kV_law dc_law pm_law an_law cd_law ct_law), sl_law⟩)
    (c_law : PySem.W.codeIn K cd_law "law" = true)
    (k_law : PySem.W.keepIn K (.ref Flaw) = true)
    (aB : PySem.W.nsIn K mainGlobals "FigureError" = some (some (.ref B)))
    (xB : PySem.W.isClsIn K B = true)
    (gB : PySem.W.specialIn K (.ref B) "__getattribute__" = some (some (.builtin "type.__getattribute__")))
    (rB : PySem.W.readsIn (mc := .type "type") K B = true)
    (iB : PySem.W.findCls K (.ref B) (.type "type") "__init__" = some (.val (.builtin "Exception.__init__")))
    (tB : PySem.W.typeIn K (.ref B) = some (.type "type"))
    (eB : PySem.W.subIn K (.ref B) (.type "BaseException") = some true)
    (oG : PySem.W.specialIn K (.builtin "object.__class__") "__get__" = some (some (.builtin "getset_descriptor.__get__")))
    (oT : PySem.W.takesIn K (.builtin "object.__class__") = some true)
    (sSV : PySem.W.subIn K (.ref CS) (.ref CV) = some false)
    (sSM : PySem.W.subIn K (.ref CS) (.ref CM) = some false)
    (sMV : PySem.W.subIn K (.ref CM) (.ref CV) = some false)
    (sMI : PySem.W.subIn K (.ref CM) (.ref CI) = some false)
    (sMS : PySem.W.subIn K (.ref CM) (.ref CS) = some false)
    (aLets : PySem.W.nsIn K mainGlobals "LETTERS" = some (some (.str "abcdefghijklmnopqrstuvwxyz" tLets)))
    (aFour : PySem.W.nsIn K mainGlobals "LONGEST_NAME" = some (some (.int 4 tFour)))
    (aGr : PySem.W.nsIn K mainGlobals "GREATEST" = some (some (.int 100 tGr)))
    (aP12 : PySem.W.nsIn K mainGlobals "MOST_POINTS" = some (some (.int 12 tP12)))
    (aU8 : PySem.W.nsIn K mainGlobals "MOST_UNKNOWNS" = some (some (.int 8 tU8)))
    (aRad : PySem.W.nsIn K mainGlobals "RADIX" = some (some (.int 20011 tRad)))
    (aF : PySem.W.nsIn K mainGlobals "FORMS" = some (some (.ref dF)))
    (xF : K.lookup dF = some ⟨.type "dict", none, .dict eF nF, #[]⟩)
    (eF_ : Ent eF.toList formsV)
    (lF_ : PySem.W.KeysLit w.params eF.toList)
    (wF_ : (dF == sysModules) = false)
    (aU : PySem.W.nsIn K mainGlobals "UNKNOWNS" = some (some (.ref dU)))
    (xU : K.lookup dU = some ⟨.type "dict", none, .dict eU nU, #[]⟩)
    (eU_ : Ent eU.toList unksV)
    (lU_ : PySem.W.KeysLit w.params eU.toList)
    (wU_ : (dU == sysModules) = false)
    (aL : PySem.W.nsIn K mainGlobals "LEAST" = some (some (.ref dL)))
    (xL : K.lookup dL = some ⟨.type "dict", none, .dict eL nL, #[]⟩)
    (eL_ : Ent eL.toList leastV)
    (lL_ : PySem.W.KeysLit w.params eL.toList)
    (wL_ : (dL == sysModules) = false)
    (aM : PySem.W.nsIn K mainGlobals "MAKERS" = some (some (.ref dM)))
    (xM : K.lookup dM = some ⟨.type "dict", none, .dict eM nM, #[]⟩)
    (eM_ : Ent eM.toList (makersV (mkOf Fplaced Fslid Fparted Fshifted Fturned Fbeyond Fmirrored Ffoot Fmeet Fsecond Fcentre)))
    (lM_ : PySem.W.KeysLit w.params eM.toList)
    (wM_ : (dM == sysModules) = false)
    (z_len : PySem.W.nsIn K mainGlobals "len" = some none)
    (z_int : PySem.W.nsIn K mainGlobals "int" = some none)
    (z_abs : PySem.W.nsIn K mainGlobals "abs" = some none)
    (z_str : PySem.W.nsIn K mainGlobals "str" = some none)
    (z_all : PySem.W.nsIn K mainGlobals "all" = some none)
    (z_tuple : PySem.W.nsIn K mainGlobals "tuple" = some none)
    (z_isinstance : PySem.W.nsIn K mainGlobals "isinstance" = some none)
    (z_bool : PySem.W.nsIn K mainGlobals "bool" = some none)
    (z_list : PySem.W.nsIn K mainGlobals "list" = some none)
    (z_range : PySem.W.nsIn K mainGlobals "range" = some none)
    (z_enumerate : PySem.W.nsIn K mainGlobals "enumerate" = some none)
    (z_sum : PySem.W.nsIn K mainGlobals "sum" = some none)
    (z_sorted : PySem.W.nsIn K mainGlobals "sorted" = some none)
    (z_divmod : PySem.W.nsIn K mainGlobals "divmod" = some none)
    (z_dict : PySem.W.nsIn K mainGlobals "dict" = some none) :
    ∃ fd : FuncData, (∀ (s : Shared) (v : Value), BindsTo s fd ⟨[v], []⟩ [("script", v)]) ∧ ∀ base : Heap, K.In base → base.Ns mainGlobals mg → FnOk l.prog w K mg base CX0 13 fa fd ["script"] (spLaw K) := by
  have e := hfa.symm.trans (PySem.W.mg_of X G a_law)
  cases e
  have Qisint := fun_mk (st := sIsInt) l_isint c_isint k_isint
  have bisint := Qisint.binds (ps := ["thing"]) fun _ _ _ _ _ _ us hl => match us, hl with | [_], _ => rfl
  have misint := PySem.W.mg_of X G a_isint
  have Qisseq := fun_mk (st := sIsSeq) l_isseq c_isseq k_isseq
  have bisseq := Qisseq.binds (ps := ["thing"]) fun _ _ _ _ _ _ us hl => match us, hl with | [_], _ => rfl
  have misseq := PySem.W.mg_of X G a_isseq
  have Qisname := fun_mk (st := sIsName) l_isname c_isname k_isname
  have bisname := Qisname.binds (ps := ["thing"]) fun _ _ _ _ _ _ us hl => match us, hl with | [_], _ => rfl
  have misname := PySem.W.mg_of X G a_isname
  have Qformed := fun_mk (st := sFormed) l_formed c_formed k_formed
  have bformed := Qformed.binds (ps := ["step"]) fun _ _ _ _ _ _ us hl => match us, hl with | [_], _ => rfl
  have mformed := PySem.W.mg_of X G a_formed
  have Qwrong := fun_mk (st := sWrong) l_wrong c_wrong k_wrong
  have bwrong := Qwrong.binds (ps := ["step", "points"]) fun _ _ _ _ _ _ us hl => match us, hl with | [_, _], _ => rfl
  have mwrong := PySem.W.mg_of X G a_wrong
  have Qmember := fun_mk (st := sMember) l_member c_member k_member
  have bmember := Qmember.binds (ps := ["member", "form", "points"]) fun _ _ _ _ _ _ us hl => match us, hl with | [_, _, _], _ => rfl
  have mmember := PySem.W.mg_of X G a_member
  have Qelders := fun_mk (st := sElders) l_elders c_elders k_elders
  have belders := Qelders.binds (ps := ["step"]) fun _ _ _ _ _ _ us hl => match us, hl with | [_], _ => rfl
  have melders := PySem.W.mg_of X G a_elders
  have Qnewunk := fun_mk (st := sNewUnk) l_newunk c_newunk k_newunk
  have bnewunk := Qnewunk.binds (ps := ["step"]) fun _ _ _ _ _ _ us hl => match us, hl with | [_], _ => rfl
  have mnewunk := PySem.W.mg_of X G a_newunk
  have Qdif := fun_mk (st := sDif) l_dif c_dif k_dif
  have bdif := Qdif.binds (ps := ["ring", "a", "b", "at"]) fun _ _ _ _ _ _ us hl => match us, hl with | [_, _, _, _], _ => rfl
  have mdif := PySem.W.mg_of X G a_dif
  have Qplaced := fun_mk (st := sPlaced) l_placed c_placed k_placed
  have bplaced := Qplaced.binds (ps := ["ring", "x", "y"]) fun _ _ _ _ _ _ us hl => match us, hl with | [_, _, _], _ => rfl
  have mplaced := PySem.W.mg_of X G a_placed
  have Qslid := fun_mk (st := sSlid) l_slid c_slid k_slid
  have bslid := Qslid.binds (ps := ["ring", "a", "b", "t"]) fun _ _ _ _ _ _ us hl => match us, hl with | [_, _, _, _], _ => rfl
  have mslid := PySem.W.mg_of X G a_slid
  have Qparted := fun_mk (st := sParted) l_parted c_parted k_parted
  have bparted := Qparted.binds (ps := ["ring", "a", "b", "n", "d"]) fun _ _ _ _ _ _ us hl => match us, hl with | [_, _, _, _, _], _ => rfl
  have mparted := PySem.W.mg_of X G a_parted
  have Qmoved := fun_mk (st := sMoved) l_moved c_moved k_moved
  have bmoved := Qmoved.binds (ps := ["ring", "q", "across", "up", "weight"]) fun _ _ _ _ _ _ us hl => match us, hl with | [_, _, _, _, _], _ => rfl
  have mmoved := PySem.W.mg_of X G a_moved
  have Qshifted := fun_mk (st := sShifted) l_shifted c_shifted k_shifted
  have bshifted := Qshifted.binds (ps := ["ring", "q", "a", "b"]) fun _ _ _ _ _ _ us hl => match us, hl with | [_, _, _, _], _ => rfl
  have mshifted := PySem.W.mg_of X G a_shifted
  have Qturned := fun_mk (st := sTurned) l_turned c_turned k_turned
  have bturned := Qturned.binds (ps := ["ring", "q", "a", "b"]) fun _ _ _ _ _ _ us hl => match us, hl with | [_, _, _, _], _ => rfl
  have mturned := PySem.W.mg_of X G a_turned
  have Qbeyond := fun_mk (st := sBeyond) l_beyond c_beyond k_beyond
  have bbeyond := Qbeyond.binds (ps := ["ring", "q", "c"]) fun _ _ _ _ _ _ us hl => match us, hl with | [_, _, _], _ => rfl
  have mbeyond := PySem.W.mg_of X G a_beyond
  have Qfoot := fun_mk (st := sFoot) l_foot c_foot k_foot
  have bfoot := Qfoot.binds (ps := ["ring", "q", "a", "b"]) fun _ _ _ _ _ _ us hl => match us, hl with | [_, _, _, _], _ => rfl
  have mfoot := PySem.W.mg_of X G a_foot
  have Qmirrored := fun_mk (st := sMirrored) l_mirrored c_mirrored k_mirrored
  have bmirrored := Qmirrored.binds (ps := ["ring", "q", "a", "b"]) fun _ _ _ _ _ _ us hl => match us, hl with | [_, _, _, _], _ => rfl
  have mmirrored := PySem.W.mg_of X G a_mirrored
  have Qsecond := fun_mk (st := sSecond) l_second c_second k_second
  have bsecond := Qsecond.binds (ps := ["ring", "a", "b", "o"]) fun _ _ _ _ _ _ us hl => match us, hl with | [_, _, _, _], _ => rfl
  have msecond := PySem.W.mg_of X G a_second
  have Qcrossed := fun_mk (st := sCrossed) l_crossed c_crossed k_crossed
  have bcrossed := Qcrossed.binds (ps := ["ring", "one", "other"]) fun _ _ _ _ _ _ us hl => match us, hl with | [_, _, _], _ => rfl
  have mcrossed := PySem.W.mg_of X G a_crossed
  have Qmeet := fun_mk (st := sMeet) l_meet c_meet k_meet
  have bmeet := Qmeet.binds (ps := ["ring", "a", "b", "c", "d"]) fun _ _ _ _ _ _ us hl => match us, hl with | [_, _, _, _, _], _ => rfl
  have mmeet := PySem.W.mg_of X G a_meet
  have Qcentre := fun_mk (st := sCentre) l_centre c_centre k_centre
  have bcentre := Qcentre.binds (ps := ["ring", "a", "b", "c"]) fun _ _ _ _ _ _ us hl => match us, hl with | [_, _, _, _], _ => rfl
  have mcentre := PySem.W.mg_of X G a_centre
  have Qmade := fun_mk (st := sMade) l_made c_made k_made
  have bmade := Qmade.binds (ps := ["ring", "step", "triples", "unknowns"]) fun _ _ _ _ _ _ us hl => match us, hl with | [_, _, _, _], _ => rfl
  have mmade := PySem.W.mg_of X G a_made
  have Qnumber := fun_mk (st := sNumber) l_number c_number k_number
  have bnumber := Qnumber.binds (ps := ["k"]) fun _ _ _ _ _ _ us hl => match us, hl with | [_], _ => rfl
  have mnumber := PySem.W.mg_of X G a_number
  have Qscaled := fun_mk (st := sScaled) l_scaled c_scaled k_scaled
  have bscaled := Qscaled.binds (ps := ["p", "k"]) fun _ _ _ _ _ _ us hl => match us, hl with | [_, _], _ => rfl
  have mscaled := PySem.W.mg_of X G a_scaled
  have Qplus := fun_mk (st := sPlus) l_plus c_plus k_plus
  have bplus := Qplus.binds (ps := ["p", "q"]) fun _ _ _ _ _ _ us hl => match us, hl with | [_, _], _ => rfl
  have mplus := PySem.W.mg_of X G a_plus
  have Qminus := fun_mk (st := sMinus) l_minus c_minus k_minus
  have bminus := Qminus.binds (ps := ["p", "q"]) fun _ _ _ _ _ _ us hl => match us, hl with | [_, _], _ => rfl
  have mminus := PySem.W.mg_of X G a_minus
  have Qtimes := fun_mk (st := sTimes) l_times c_times k_times
  have btimes := Qtimes.binds (ps := ["p", "q"]) fun _ _ _ _ _ _ us hl => match us, hl with | [_, _], _ => rfl
  have mtimes := PySem.W.mg_of X G a_times
  have Qrow := fun_mk (st := sRow) l_row c_row k_row
  have brow := Qrow.binds (ps := ["out", "key", "many", "columns"]) fun _ _ _ _ _ _ us hl => match us, hl with | [_, _, _, _], _ => rfl
  have mrow := PySem.W.mg_of X G a_row
  have Qstart := fun_mk (st := sStart) l_start c_start k_start
  have bstart := Qstart.binds (ps := ["script"]) fun _ _ _ _ _ _ us hl => match us, hl with | [_], _ => rfl
  have mstart := PySem.W.mg_of X G a_start
  have Qdraw := fun_mk (st := sDraw) l_draw c_draw k_draw
  have bdraw := Qdraw.binds (ps := ["state", "many"]) fun _ _ _ _ _ _ us hl => match us, hl with | [_, _], _ => rfl
  have mdraw := PySem.W.mg_of X G a_draw
  have Qsame := fun_mk (st := sSame) l_same c_same k_same
  have bsame := Qsame.binds (ps := ["actual", "due"]) fun _ _ _ _ _ _ us hl => match us, hl with | [_, _], _ => rfl
  have msame := PySem.W.mg_of X G a_same
  have Qnames := fun_mk (st := sNames) l_names c_names k_names
  have bnames := Qnames.binds (ps := ["state", "many"]) fun _ _ _ _ _ _ us hl => match us, hl with | [_, _], _ => rfl
  have mnames := PySem.W.mg_of X G a_names
  have Qwords := fun_mk (st := sWords) l_words c_words k_words
  have bwords := Qwords.binds (ps := []) fun _ _ _ _ _ _ us hl => match us, hl with | [], _ => rfl
  have mwords := PySem.W.mg_of X G a_words
  have Qlel := fun_mk (st := sLEl) l_lel c_lel k_lel
  have blel := Qlel.binds (ps := ["word"]) fun _ _ _ _ _ _ us hl => match us, hl with | [_], _ => rfl
  have mlel := PySem.W.mg_of X G a_lel
  have Qlbt := fun_mk (st := sLBt) l_lbt c_lbt k_lbt
  have blbt := Qlbt.binds (ps := ["number_v", "low", "high"]) fun _ _ _ _ _ _ us hl => match us, hl with | [_, _, _], _ => rfl
  have mlbt := PySem.W.mg_of X G a_lbt
  have Qlnm := fun_mk (st := sLNm) l_lnm c_lnm k_lnm
  have blnm := Qlnm.binds (ps := ["name"]) fun _ _ _ _ _ _ us hl => match us, hl with | [_], _ => rfl
  have mlnm := PySem.W.mg_of X G a_lnm
  have Qfault := fun_mk (st := sLFault) l_fault c_fault k_fault
  have bfault := Qfault.binds (ps := ["step", "there"]) fun _ _ _ _ _ _ us hl => match us, hl with | [_, _], _ => rfl
  have mfault := PySem.W.mg_of X G a_fault
  have Qlight := fun_mk (st := sLight) l_light c_light k_light
  have blight := Qlight.binds (ps := ["state", "book", "name"]) fun _ _ _ _ _ _ us hl => match us, hl with | [_, _, _], _ => rfl
  have mlight := PySem.W.mg_of X G a_light
  have Qlstep := fun_mk (st := sStep) l_lstep c_lstep k_lstep
  have blstep := Qlstep.binds (ps := ["state", "book", "name"]) fun _ _ _ _ _ _ us hl => match us, hl with | [_, _, _], _ => rfl
  have mlstep := PySem.W.mg_of X G a_lstep
  have Qask := fun_mk (st := sAsk) l_ask c_ask k_ask
  have bask := Qask.binds (ps := ["figure", "step"]) fun _ _ _ _ _ _ us hl => match us, hl with | [_, _], _ => rfl
  have mask := PySem.W.mg_of X G a_ask
  have Qright := fun_mk (st := sRight) l_right c_right k_right
  have bright := Qright.binds (ps := ["figure", "book"]) fun _ _ _ _ _ _ us hl => match us, hl with | [_, _], _ => rfl
  have mright := PySem.W.mg_of X G a_right
  have Qspoilt := fun_mk (st := sSpoilt) l_spoilt c_spoilt k_spoilt
  have bspoilt := Qspoilt.binds (ps := ["state", "book", "step"]) fun _ _ _ _ _ _ us hl => match us, hl with | [_, _, _], _ => rfl
  have mspoilt := PySem.W.mg_of X G a_spoilt
  have Qllet := fun_mk (st := sLLet) l_llet c_llet k_llet
  have bllet := Qllet.binds (ps := []) fun _ _ _ _ _ _ us hl => match us, hl with | [], _ => rfl
  have mllet := PySem.W.mg_of X G a_llet
  have Qref := fun_mk (st := sRef) l_ref c_ref k_ref
  have bref := Qref.binds (ps := ["state", "figure", "book", "name"]) fun _ _ _ _ _ _ us hl => match us, hl with | [_, _, _, _], _ => rfl
  have mref := PySem.W.mg_of X G a_ref
  have Qfull := fun_mk (st := sFull) l_full c_full k_full
  have bfull := Qfull.binds (ps := ["state", "figure", "book", "name"]) fun _ _ _ _ _ _ us hl => match us, hl with | [_, _, _, _], _ => rfl
  have mfull := PySem.W.mg_of X G a_full
  have Qadded := fun_mk (st := sAdded) l_added c_added k_added
  have badded := Qadded.binds (ps := ["state", "figure", "book", "name"]) fun _ _ _ _ _ _ us hl => match us, hl with | [_, _, _, _], _ => rfl
  have madded := PySem.W.mg_of X G a_added
  have Qlaw := fun_mk (st := sLaw) l_law c_law k_law
  have Qfinit := fun_mk (st := sFInit) l_finit c_finit k_finit
  have bfinit := Qfinit.binds (ps := ["self", "names", "radix"]) fun _ _ _ _ _ _ us hl => match us, hl with | [_, _, _], _ => rfl
  have Qkey := fun_mk (st := sKey) l_key c_key k_key
  have bkey := Qkey.binds (ps := ["self", "monomial"]) fun _ _ _ _ _ _ us hl => match us, hl with | [_, _], _ => rfl
  have Qr0 := fun_mk (st := (sRing 0)) l_r0 c_r0 k_r0
  have br0 := Qr0.binds (ps := ["self", "k"]) fun _ _ _ _ _ _ us hl => match us, hl with | [_, _], _ => rfl
  have Qr1 := fun_mk (st := (sRing 1)) l_r1 c_r1 k_r1
  have br1 := Qr1.binds (ps := ["self", "p", "k"]) fun _ _ _ _ _ _ us hl => match us, hl with | [_, _, _], _ => rfl
  have Qr2 := fun_mk (st := (sRing 2)) l_r2 c_r2 k_r2
  have br2 := Qr2.binds (ps := ["self", "p", "q"]) fun _ _ _ _ _ _ us hl => match us, hl with | [_, _, _], _ => rfl
  have Qr3 := fun_mk (st := (sRing 3)) l_r3 c_r3 k_r3
  have br3 := Qr3.binds (ps := ["self", "p", "q"]) fun _ _ _ _ _ _ us hl => match us, hl with | [_, _, _], _ => rfl
  have Qr4 := fun_mk (st := (sRing 4)) l_r4 c_r4 k_r4
  have br4 := Qr4.binds (ps := ["self", "p", "q"]) fun _ _ _ _ _ _ us hl => match us, hl with | [_, _, _], _ => rfl
  have Qcinit := fun_mk (st := sCInit) l_cinit c_cinit k_cinit
  have bcinit := Qcinit.binds (ps := ["self"]) fun _ _ _ _ _ _ us hl => match us, hl with | [_], _ => rfl
  have Qadd := fun_mk (st := sAdd) l_add c_add k_add
  have badd := Qadd.binds (ps := ["self", "step"]) fun _ _ _ _ _ _ us hl => match us, hl with | [_, _], _ => rfl
  have Qchk := fun_mk (st := sChk) l_chk c_chk k_chk
  have bchk := Qchk.binds (ps := ["self", "step"]) fun _ _ _ _ _ _ us hl => match us, hl with | [_, _], _ => rfl
  have Qsteps := fun_mk (st := sSteps) l_steps c_steps k_steps
  have bsteps := Qsteps.binds (ps := ["self"]) fun _ _ _ _ _ _ us hl => match us, hl with | [_], _ => rfl
  have Qpoints := fun_mk (st := sPoints) l_points c_points k_points
  have bpoints := Qpoints.binds (ps := ["self"]) fun _ _ _ _ _ _ us hl => match us, hl with | [_], _ => rfl
  have Qunks := fun_mk (st := sUnks) l_unks c_unks k_unks
  have bunks := Qunks.binds (ps := ["self"]) fun _ _ _ _ _ _ us hl => match us, hl with | [_], _ => rfl
  refine ⟨PySem.W.fnOf "law" "law" (defArgs sLaw) (defBody sLaw) (defScope sLaw) .none kV_law dc_law pm_law an_law cd_law ct_law, fun s v => .of_eq rfl, fun base _ _ => ?_⟩
  have mz : ∀ {x : Str}, PySem.W.nsIn K mainGlobals x = some none → mg x = none := fun q => PySem.W.mg_none_of X G q
  have clB : (PySem.W.clsIn K B).isSome = true := xB
  have mBE := PySem.W.mg_of X G aB
  have EV : ClsFacts K B CV fV "BadValue" "at" := ⟨axV, ⟨_, _, _, _, _, _, _, _, _, _, _, _, _, _, xxV⟩, sxV, gxV, hxV, nxV, cxV, ixV, txV, kkxV, TxV⟩
  have FV' := fun_mk (st := sBadValue) lxV dxV kxV
  have BV' := FV'.binds (ps := ["self", "at"]) fun _ _ _ _ _ _ us hl => match us, hl with | [_, _], _ => rfl
  have clV : (PySem.W.clsIn K CV).isSome = true := by
    obtain ⟨cd, q, _⟩ := EV.cls
    rw [q]
    rfl
  have TV : ErrT l.prog w K mg base "BadValue" "at" B CV fV _ := ⟨PySem.W.mg_of X G axV, EV.err, ixV, txV, nxV, BV', iniBadValue FV' ⟨gB, rB, iB⟩ mBE, exm_of_cls eB clB tB ((EV.sub _).trans (by simp [line])), EV.ask oG oT, EV.xf⟩
  have kitV : PySem.W.kitOne K (.ref CV) (.ref CV) = some true := kit_of_cls clV TxV ((EV.sub _).trans (by simp [line])) (fun _ => rfl)
  have ES : ClsFacts K B CS fS "BadStep" "at" := ⟨axS, ⟨_, _, _, _, _, _, _, _, _, _, _, _, _, _, xxS⟩, sxS, gxS, hxS, nxS, cxS, ixS, txS, kkxS, TxS⟩
  have FS' := fun_mk (st := sBadStep) lxS dxS kxS
  have BS' := FS'.binds (ps := ["self", "at"]) fun _ _ _ _ _ _ us hl => match us, hl with | [_, _], _ => rfl
  have clS : (PySem.W.clsIn K CS).isSome = true := by
    obtain ⟨cd, q, _⟩ := ES.cls
    rw [q]
    rfl
  have TS : ErrT l.prog w K mg base "BadStep" "at" B CS fS _ := ⟨PySem.W.mg_of X G axS, ES.err, ixS, txS, nxS, BS', iniBadStep FS' ⟨gB, rB, iB⟩ mBE, exm_of_cls eB clB tB ((ES.sub _).trans (by simp [line])), ES.ask oG oT, ES.xf⟩
  have kitS : PySem.W.kitOne K (.ref CS) (.ref CS) = some true := kit_of_cls clS TxS ((ES.sub _).trans (by simp [line])) (fun _ => rfl)
  have EI : ClsFacts K B CI fI "Impossible" "name" := ⟨axI, ⟨_, _, _, _, _, _, _, _, _, _, _, _, _, _, xxI⟩, sxI, gxI, hxI, nxI, cxI, ixI, txI, kkxI, TxI⟩
  have FI' := fun_mk (st := sImpossible) lxI dxI kxI
  have BI' := FI'.binds (ps := ["self", "name"]) fun _ _ _ _ _ _ us hl => match us, hl with | [_, _], _ => rfl
  have clI : (PySem.W.clsIn K CI).isSome = true := by
    obtain ⟨cd, q, _⟩ := EI.cls
    rw [q]
    rfl
  have TI : ErrT l.prog w K mg base "Impossible" "name" B CI fI _ := ⟨PySem.W.mg_of X G axI, EI.err, ixI, txI, nxI, BI', iniImpossible FI' ⟨gB, rB, iB⟩ mBE, exm_of_cls eB clB tB ((EI.sub _).trans (by simp [line])), EI.ask oG oT, EI.xf⟩
  have kitI : PySem.W.kitOne K (.ref CI) (.ref CI) = some true := kit_of_cls clI TxI ((EI.sub _).trans (by simp [line])) (fun _ => rfl)
  have EM : ClsFacts K B CM fM "TooMany" "word" := ⟨axM, ⟨_, _, _, _, _, _, _, _, _, _, _, _, _, _, xxM⟩, sxM, gxM, hxM, nxM, cxM, ixM, txM, kkxM, TxM⟩
  have FM' := fun_mk (st := sTooMany) lxM dxM kxM
  have BM' := FM'.binds (ps := ["self", "word"]) fun _ _ _ _ _ _ us hl => match us, hl with | [_, _], _ => rfl
  have clM : (PySem.W.clsIn K CM).isSome = true := by
    obtain ⟨cd, q, _⟩ := EM.cls
    rw [q]
    rfl
  have TM : ErrT l.prog w K mg base "TooMany" "word" B CM fM _ := ⟨PySem.W.mg_of X G axM, EM.err, ixM, txM, nxM, BM', iniTooMany FM' ⟨gB, rB, iB⟩ mBE, exm_of_cls eB clB tB ((EM.sub _).trans (by simp [line])), EM.ask oG oT, EM.xf⟩
  have kitM : PySem.W.kitOne K (.ref CM) (.ref CM) = some true := kit_of_cls clM TxM ((EM.sub _).trans (by simp [line])) (fun _ => rfl)
  have neSV : CS ≠ CV := fun z => by
    rw [← z, ES.sub] at sSV
    simp [line] at sSV
  have kitSV : PySem.W.kitOne K (.ref CS) (.ref CV) = some false := kit_of_cls clV TxV sSV (fun z => absurd z neSV)
  have neSM : CS ≠ CM := fun z => by
    rw [← z, ES.sub] at sSM
    simp [line] at sSM
  have kitSM : PySem.W.kitOne K (.ref CS) (.ref CM) = some false := kit_of_cls clM TxM sSM (fun z => absurd z neSM)
  have neMV : CM ≠ CV := fun z => by
    rw [← z, EM.sub] at sMV
    simp [line] at sMV
  have kitMV : PySem.W.kitOne K (.ref CM) (.ref CV) = some false := kit_of_cls clV TxV sMV (fun z => absurd z neMV)
  have neMI : CM ≠ CI := fun z => by
    rw [← z, EM.sub] at sMI
    simp [line] at sMI
  have kitMI : PySem.W.kitOne K (.ref CM) (.ref CI) = some false := kit_of_cls clI TxI sMI (fun z => absurd z neMI)
  have neMS : CM ≠ CS := fun z => by
    rw [← z, EM.sub] at sMS
    simp [line] at sMS
  have kitMS : PySem.W.kitOne K (.ref CM) (.ref CS) = some false := kit_of_cls clS TxS sMS (fun z => absurd z neMS)
  have mB := PySem.W.mg_of X G aB
  have BC : BaseC K B := ⟨gB, rB, iB⟩
  have TK : KindTxt K mg := ⟨mz z_isinstance, mz z_str, mz z_int, mz z_bool, mz z_list, mz z_tuple, mz z_len, mz z_all, mz z_enumerate, ⟨_, PySem.W.mg_of X G aLets⟩, ⟨_, PySem.W.mg_of X G aFour⟩⟩
  have ST : StepTxt K w mg dF dU dL dM := ⟨PySem.W.mg_of X G aF, PySem.W.mg_of X G aU, PySem.W.mg_of X G aL, ⟨_, PySem.W.mg_of X G aGr⟩, tab_of xF eF_ lF_ wF_, tab_of xU eU_ lU_ wU_, tab_of xL eL_ lL_ wL_, PySem.W.mg_of X G aM⟩
  have FT : FldTxt K mg CF := ⟨⟨CF_pg, CF_hd, CF_po, CF_sa⟩, F_nN, F_nW, F_nP, PySem.W.mg_of X G a_CF, mz z_list, mz z_enumerate, mz z_sum, mz z_tuple, mz z_sorted, mz z_len, mz z_divmod⟩
  have CT : ConTxt K mg C := ⟨⟨C_pg, C_hd, C_po, C_sa⟩, C_nS, C_nU, C_nT, PySem.W.mg_of X G a_C⟩
  have AT : AddTxt K mg CR := ⟨PySem.W.mg_of X G a_CR, ⟨CR_mk, CR_in, CR_kp⟩, ⟨_, PySem.W.mg_of X G aP12⟩, ⟨_, PySem.W.mg_of X G aU8⟩, ⟨_, PySem.W.mg_of X G aRad⟩⟩
  have MC : Mk K C Fcinit := ⟨C_mk, a_cinit, f_cinit, C_kp⟩
  have MF : Mk K CF Ffinit := ⟨CF_mk, a_finit, f_finit, CF_kp⟩
  -- tables
  have Grow := ok_row (P := l.prog) (w := w) (mg := mg) (base := base) Qrow
  have TR : RowTxt l.prog w K mg base Frow _ := ⟨Grow, brow, mrow, k_row, mz z_len, mz z_list⟩
  have Gtim := ok_tim (ok_times Qtimes TR btimes mtimes k_times)
  have Gnum := ok_num (P := l.prog) (w := w) (mg := mg) (base := base) Qnumber
  have Gscl := ok_scl (P := l.prog) (w := w) (mg := mg) (base := base) Qscaled
  have Gplu := ok_plu (P := l.prog) (w := w) (mg := mg) (base := base) Qplus
  have Gplu2 := ok_plus2 (P := l.prog) (w := w) (mg := mg) (base := base) Qplus
  have Gsub := fn_sub (P := l.prog) (w := w) (base := base) Qminus Gplu bplus mplus k_plus Gscl bscaled mscaled k_scaled
  have R0 := ok_r0 Qr0 ⟨Gnum, bnumber, mnumber, k_number⟩
  have R1 := ok_r1 Qr1 ⟨Gscl, bscaled, mscaled, k_scaled⟩
  have R2 := ok_r2 Qr2 ⟨Gplu2, bplus, mplus, k_plus⟩
  have R3 := ok_r3 Qr3 ⟨Gsub, bminus, mminus, k_minus⟩
  have R4 := ok_r4 Qr4 ⟨Gtim, btimes, mtimes, k_times⟩
  have RT : RingT l.prog w K mg base CR Fr0 Fr1 Fr2 Fr3 Fr4 _ _ _ _ _ := ⟨⟨CR_pg, CR_hd, CR_po, CR_sa⟩, ⟨R0, br0, ⟨a_r0, f_r0, k_r0⟩⟩, ⟨R1, br1, ⟨a_r1, f_r1, k_r1⟩⟩, ⟨R2, br2, ⟨a_r2, f_r2, k_r2⟩⟩, ⟨R3, br3, ⟨a_r3, f_r3, k_r3⟩⟩, ⟨R4, br4, ⟨a_r4, f_r4, k_r4⟩⟩⟩
  -- makers
  have Gdif := ok_dif Qdif RT
  have Udif : CallT l.prog w K mg base CX0 5 "difference" ["ring", "a", "b", "at"] (spDif CR) Fdif _ := ⟨Gdif, bdif, mdif, k_dif⟩
  have Gpla := ok_placed Qplaced RT
  have Gsli := ok_slid Qslid RT Udif (mz z_range)
  have Gpar := ok_parted Qparted RT Udif (mz z_range)
  have Gmov := ok_moved Qmoved RT
  have Umov : CallT l.prog w K mg base CX0 5 "_moved" ["ring", "q", "across", "up", "weight"] (spMoved CR) Fmoved _ := ⟨Gmov, bmoved, mmoved, k_moved⟩
  have Gshi := ok_shifted Qshifted RT Udif Umov
  have Gtur := ok_turned Qturned RT Udif Umov
  have Gbey := ok_beyond Qbeyond RT (mz z_range)
  have Gfoo := ok_foot Qfoot RT Udif
  have Gmir := ok_mirrored Qmirrored ⟨Gbey, bbeyond, mbeyond, k_beyond⟩ ⟨Gfoo, bfoot, mfoot, k_foot⟩
  have Gsec := ok_second Qsecond ⟨Gbey, bbeyond, mbeyond, k_beyond⟩ ⟨Gfoo, bfoot, mfoot, k_foot⟩
  have Gcro := ok_crossed Qcrossed RT
  have Gmee := ok_meet Qmeet ⟨Gcro, bcrossed, mcrossed, k_crossed⟩
  have Gcen := ok_centre Qcentre ⟨Gpar, bparted, mparted, k_parted⟩ ⟨Gtur, bturned, mturned, k_turned⟩ ⟨Gmee, bmeet, mmeet, k_meet⟩
  have MT : MakersT l.prog w K mg base CR dM (mkOf Fplaced Fslid Fparted Fshifted Fturned Fbeyond Fmirrored Ffoot Fmeet Fsecond Fcentre) := ⟨tab_of xM eM_ lM_ wM_, fun d => by
    cases d
    · exact held_of Gpla k_placed bplaced (by decide) fun _ _ _ _ => mk_free
    · exact held_of Gsli k_slid bslid (by decide) fun _ _ _ _ => mk_slide
    · exact held_of Gpar k_parted bparted (by decide) fun _ _ _ _ => mk_part
    · exact held_of Gshi k_shifted bshifted (by decide) fun _ _ _ _ => mk_three rfl rfl rfl fun _ _ _ => rfl
    · exact held_of Gtur k_turned bturned (by decide) fun _ _ _ _ => mk_three rfl rfl rfl fun _ _ _ => rfl
    · exact held_of Gbey k_beyond bbeyond (by decide) fun _ _ _ _ => mk_over
    · exact held_of Gmir k_mirrored bmirrored (by decide) fun _ _ _ _ => mk_three rfl rfl rfl fun _ _ _ => rfl
    · exact held_of Gfoo k_foot bfoot (by decide) fun _ _ _ _ => mk_three rfl rfl rfl fun _ _ _ => rfl
    · exact held_of Gmee k_meet bmeet (by decide) fun _ _ _ _ => mk_meet
    · exact held_of Gsec k_second bsecond (by decide) fun _ _ _ _ => mk_three rfl rfl rfl fun _ _ _ => rfl
    · exact held_of Gcen k_centre bcentre (by decide) fun _ _ _ _ => mk_three rfl rfl rfl fun _ _ _ => rfl⟩
  -- steps
  have Gisi := ok_isint (P := l.prog) (w := w) (base := base) Qisint TK
  have Giss := ok_isseq (P := l.prog) (w := w) (base := base) Qisseq TK
  have Gisn := CN.ok_isname (P := l.prog) (w := w) (base := base) Qisname TK
  have UQ : CallT l.prog w K mg base CX0 1 "is_sequence" ["thing"] spIsSeq Fisseq _ := ⟨Giss, bisseq, misseq, k_isseq⟩
  have Gfor := ok_formed Qformed TK ST UQ
  have Gmem := ok_member Qmember TK ST ⟨Gisi, bisint, misint, k_isint⟩
  have Gwro := ok_wrong Qwrong TK ST ⟨Gmem, bmember, mmember, k_member⟩
  have Geld := ok_elders (P := l.prog) (w := w) (base := base) Qelders TK ST
  have Gnew := ok_newunk (P := l.prog) (w := w) (base := base) Qnewunk TK ST
  have UN : CallT l.prog w K mg base CX0 1 "new_unknowns" ["step"] spNewUnk Fnewunk _ := ⟨Gnew, bnewunk, mnewunk, k_newunk⟩
  have Gmad := ok_made Qmade TK ST MT ⟨Geld, belders, melders, k_elders⟩ UN
  -- Fields, Construction
  have Gfin := ok_finit (P := l.prog) (w := w) (base := base) Qfinit FT
  have Gkey := ok_key1 (P := l.prog) (w := w) (base := base) Qkey FT
  have Gchk := ok_chk Qchk TK CT TS ⟨Gfor, bformed, mformed, k_formed⟩ ⟨Gisn, bisname, misname, k_isname⟩ ⟨Gwro, bwrong, mwrong, k_wrong⟩
  have Gadd := ok_add Qadd TK CT AT FT MF TM TI ⟨Gchk, bchk, ⟨a_chk, f_chk, k_chk⟩⟩ UN ⟨Gfin, bfinit⟩ ⟨Gkey, bkey, ⟨a_key, f_key, k_key⟩⟩ ⟨Gmad, bmade, mmade, k_made⟩
  have UA : MethX l.prog w K mg base C 10 "add" ["self", "step"] (spAdd C CS CI CM) Fadd _ := ⟨Gadd, badd, ⟨a_add, f_add, k_add⟩⟩
  have Gcin := ok_cinit (P := l.prog) (w := w) (base := base) Qcinit CT
  have UI : InitT l.prog w K mg base 1 ["self"] (spCInit C) Fcinit _ := ⟨Gcin, bcinit⟩
  have Gste := ok_steps (P := l.prog) (w := w) (base := base) Qsteps TK CT
  have Gpoi := ok_points (P := l.prog) (w := w) (base := base) Qpoints TK CT
  have Gunk := ok_unks (P := l.prog) (w := w) (base := base) Qunks TK CT
  have DT : DicTxt mg := ⟨mz z_len, mz z_int, mz z_abs, mz z_list, mz z_range⟩
  have LC : LChkTxt mg := ⟨mz z_isinstance, mz z_str, mz z_int, mz z_bool, mz z_list, mz z_tuple, mz z_len, mz z_range⟩
  have LS : LStepTxt mg := ⟨mz z_len, mz z_list, mz z_tuple, mz z_range, mz z_sum⟩
  have Gsta := ok_start (P := l.prog) (w := w) (K := K) (base := base) Qstart DT
  have Gdra := ok_draw (P := l.prog) (w := w) (base := base) Qdraw DT
  have UD : CallT l.prog w K mg base CX0 1 "_law_draw" ["state", "many"] spDraw Fdraw _ := ⟨Gdra, bdraw, mdraw, k_draw⟩
  have SM : SameTxt K mg Fsame := ⟨mz z_isinstance, mz z_tuple, mz z_list, mz z_str, mz z_bool, mz z_int, mz z_len, mz z_range, msame, k_same⟩
  have Gsam := ok_sameS (P := l.prog) (w := w) (base := base) Qsame bsame SM (ok_sameS Qsame bsame SM (ok_same0 Qsame SM))
  have UQ2 : CallT l.prog w K mg base CX0 3 "_law_same" ["actual", "due"] (spSame 2) Fsame _ := ⟨Gsam, bsame, msame, k_same⟩
  have Gnam := ok_names Qnames DT UD
  have Gwor := ok_words (P := l.prog) (w := w) (mg := mg) (base := base) Qwords
  have UW : CallT l.prog w K mg base CX0 1 "_law_words" [] spWords Fwords _ := ⟨Gwor, bwords, mwords, k_words⟩
  have Glel := ok_lel Qlel UW
  have UE : CallT l.prog w K mg base CX0 2 "_law_elders" ["word"] spLEl Flel _ := ⟨Glel, blel, mlel, k_lel⟩
  have Glbt := ok_lbt (P := l.prog) (w := w) (base := base) Qlbt LC
  have Glnm := ok_lnm (P := l.prog) (w := w) (base := base) Qlnm LC
  have Gfau := ok_lfault Qfault LC UW UE ⟨Glbt, blbt, mlbt, k_lbt⟩ ⟨Glnm, blnm, mlnm, k_lnm⟩
  have Glig := ok_light Qlight LS UD UE
  have Glst := ok_lstep Qlstep LS UD ⟨Glig, blight, mlight, k_light⟩
  have UP : CallT l.prog w K mg base CX0 4 "_law_step" ["state", "book", "name"] (spLStep false) Flstep _ := ⟨Glst, blstep, mlstep, k_lstep⟩
  have Glet := ok_llet (P := l.prog) (w := w) (mg := mg) (base := base) Qllet
  have Gspo := ok_spoilt Qspoilt LS UD ⟨Glet, bllet, mllet, k_llet⟩
  have eS : PySem.W.subIn K (.ref CS) (.type "BaseException") = some true := (ES.sub _).trans (by simp [line])
  have eM : PySem.W.subIn K (.ref CM) (.type "BaseException") = some true := (EM.sub _).trans (by simp [line])
  have AK : AskK K B CV CS CI CM := ⟨exm_of_cls eS clS TxS ((ES.sub _).trans (by simp [line])), exm_of_cls eS clS TxS sMS, exm_of_cls eM clM TxM ((EM.sub _).trans (by simp [line])), kit_of_cls clB tB ((ES.sub _).trans (by simp [line])) (fun _ => rfl), kit_of_cls clB tB ((EM.sub _).trans (by simp [line])) (fun _ => rfl), kitSV, kitSM, kitMV, kitMI⟩
  have Gask := ok_lask Qask LC CT mBE TV TS TI TM AK UA
  have UK : CallT l.prog w K mg base CX0 11 "_law_asked" ["figure", "step"] (spLAsk C) Fask _ := ⟨Gask, bask, mask, k_ask⟩
  have Grig := ok_lright Qright LC CT ⟨Gste, bsteps, ⟨a_steps, f_steps, k_steps⟩⟩ ⟨Gpoi, bpoints, ⟨a_points, f_points, k_points⟩⟩ ⟨Gunk, bunks, ⟨a_unks, f_unks, k_unks⟩⟩ UQ2
  have UR : CallT l.prog w K mg base CX0 4 "_law_state_right" ["figure", "book"] (spLRight C) Fright _ := ⟨Grig, bright, mright, k_right⟩
  have Gref := ok_lref Qref UP ⟨Gspo, bspoilt, mspoilt, k_spoilt⟩ ⟨Gfau, bfault, mfault, k_fault⟩ UQ2 UK UR
  have Gful := ok_lfull Qfull LC UQ2 UK UR
  have Gaed := ok_ladded Qadded LC CT UP UD UA (kw_self Qadd (fun _ _ _ _ _ _ _ _ => rfl)) UQ2 UK UR
  exact ok_law Qlaw ⟨LC, CT, MC, UI, ⟨Gsta, bstart, mstart, k_start⟩, ⟨Gnam, bnames, mnames, k_names⟩, UR, UD, ⟨Gref, bref, mref, k_ref⟩, ⟨Gaed, badded, madded, k_added⟩, ⟨Gful, bfull, mfull, k_full⟩⟩
end CN

set_option Elab.async false
set_option linter.all false
set_option maxRecDepth 100000
namespace CN
open PySem L2
theorem walk {l : PySem.W.OpenLaw} {q : Program} {loose : List Str} {XP : (Str → Option Value) → Heap → Prop} {YP : World → Heap → Prop} {d : DefRec} {K : Params → PySem.W.Frag} (hn : l.most = some 63) (hdf : d.params.defaults = [])
    (hY : ∀ (w : World) (h : Heap), YP w h → (K w.params).In h)
    (F : ∀ (w : World) (mg : Str → Option Value) (fa : Addr) (h : Heap), XP mg h → (K w.params).In h → h.Ns mainGlobals mg → mg d.name = some (.ref fa) →
      ∃ fd : FuncData, (∀ (s : Shared) (u : Value), BindsTo s fd ⟨[u], []⟩ [("script", u)]) ∧ ∀ base : Heap, (K w.params).In base → base.Ns mainGlobals mg → FnOk l.prog w (K w.params) mg base CX0 13 fa fd ["script"] (spLaw (K w.params))) :
    PySem.W.WalkO q loose XP YP l.row.toRowW d [] (fun f vs => PySem.call f vs) := by
  refine Att.attach_call hn hdf fun w s₀ s₁ mg mb fa o pm cd doc a vs ns GG Y ho hd hcd hmg hobj hints hlen hg => ?_
  have KX := hY w _ Y
  obtain ⟨fd, hb, hF⟩ := F w mg fa _ GG.X KX GG.T.g hmg
  exact law_call (k := 13) KX GG.T.g GG.T.b GG.T.builtins GG.T.nolimit hg hobj hints (Nat.le_trans hlen (by decide)) ⟨rfl, by decide, by decide⟩ hF hb (fun H hO hS => ⟨a, ns, rfl, hS, by omega, fun _ => rfl⟩) fun _ _ _ z => z
end CN
open PySem PySem.W PyProof.Rows in
set_option maxRecDepth 100000 in
set_option maxHeartbeats 0 in
theorem PySem.Challenge.cw_figurehold_k08_steps_told_holds : PySem.Challenge.rw_figurehold_k08_steps_told.Holds := by
  w_on; o_law; k_head; (case hw => w_witness2)
  k_fill
  refine CN.walk (l := PySem.Challenge.rw_figurehold_k08_steps_told) rfl rfl (fun w h Y => PySem.W.kIn_of Y) ?F
  case F =>
    intro w mg fa h XX KX G hmg
    refine' CN.all_mk KX G hmg ?zz_axV ?zz_xxV ?zz_sxV ?zz_gxV ?zz_hxV ?zz_nxV ?zz_cxV ?zz_ixV ?zz_txV ?zz_lxV ?zz_dxV ?zz_kxV ?zz_kkxV ?zz_TxV ?zz_axS ?zz_xxS ?zz_sxS ?zz_gxS ?zz_hxS ?zz_nxS ?zz_cxS ?zz_ixS ?zz_txS ?zz_lxS ?zz_dxS ?zz_kxS ?zz_kkxS ?zz_TxS ?zz_axI ?zz_xxI ?zz_sxI ?zz_gxI ?zz_hxI ?zz_nxI ?zz_cxI ?zz_ixI ?zz_txI ?zz_lxI ?zz_dxI ?zz_kxI ?zz_kkxI ?zz_TxI ?zz_axM ?zz_xxM ?zz_sxM ?zz_gxM ?zz_hxM ?zz_nxM ?zz_cxM ?zz_ixM ?zz_txM ?zz_lxM ?zz_dxM ?zz_kxM ?zz_kkxM ?zz_TxM ?zz_a_CF ?zz_CF_pg ?zz_CF_hd ?zz_CF_po ?zz_CF_sa ?zz_CF_mk ?zz_CF_kp ?zz_F_nN ?zz_F_nW ?zz_F_nP ?zz_a_finit ?zz_f_finit ?zz_l_finit ?zz_c_finit ?zz_k_finit ?zz_a_key ?zz_f_key ?zz_l_key ?zz_c_key ?zz_k_key ?zz_a_CR ?zz_CR_pg ?zz_CR_hd ?zz_CR_po ?zz_CR_sa ?zz_CR_mk ?zz_CR_kp ?zz_CR_in ?zz_a_r0 ?zz_f_r0 ?zz_l_r0 ?zz_c_r0 ?zz_k_r0 ?zz_a_r1 ?zz_f_r1 ?zz_l_r1 ?zz_c_r1 ?zz_k_r1 ?zz_a_r2 ?zz_f_r2 ?zz_l_r2 ?zz_c_r2 ?zz_k_r2 ?zz_a_r3 ?zz_f_r3 ?zz_l_r3 ?zz_c_r3 ?zz_k_r3 ?zz_a_r4 ?zz_f_r4 ?zz_l_r4 ?zz_c_r4 ?zz_k_r4 ?zz_a_C ?zz_C_pg ?zz_C_hd ?zz_C_po ?zz_C_sa ?zz_C_mk ?zz_C_kp ?zz_C_nS ?zz_C_nU ?zz_C_nT ?zz_a_cinit ?zz_f_cinit ?zz_l_cinit ?zz_c_cinit ?zz_k_cinit ?zz_a_add ?zz_f_add ?zz_l_add ?zz_c_add ?zz_k_add ?zz_a_chk ?zz_f_chk ?zz_l_chk ?zz_c_chk ?zz_k_chk ?zz_a_steps ?zz_f_steps ?zz_l_steps ?zz_c_steps ?zz_k_steps ?zz_a_points ?zz_f_points ?zz_l_points ?zz_c_points ?zz_k_points ?zz_a_unks ?zz_f_unks ?zz_l_unks ?zz_c_unks ?zz_k_unks ?zz_a_isint ?zz_l_isint ?zz_c_isint ?zz_k_isint ?zz_a_isseq ?zz_l_isseq ?zz_c_isseq ?zz_k_isseq ?zz_a_isname ?zz_l_isname ?zz_c_isname ?zz_k_isname ?zz_a_formed ?zz_l_formed ?zz_c_formed ?zz_k_formed ?zz_a_wrong ?zz_l_wrong ?zz_c_wrong ?zz_k_wrong ?zz_a_member ?zz_l_member ?zz_c_member ?zz_k_member ?zz_a_elders ?zz_l_elders ?zz_c_elders ?zz_k_elders ?zz_a_newunk ?zz_l_newunk ?zz_c_newunk ?zz_k_newunk ?zz_a_dif ?zz_l_dif ?zz_c_dif ?zz_k_dif ?zz_a_placed ?zz_l_placed ?zz_c_placed ?zz_k_placed ?zz_a_slid ?zz_l_slid ?zz_c_slid ?zz_k_slid ?zz_a_parted ?zz_l_parted ?zz_c_parted ?zz_k_parted ?zz_a_moved ?zz_l_moved ?zz_c_moved ?zz_k_moved ?zz_a_shifted ?zz_l_shifted ?zz_c_shifted ?zz_k_shifted ?zz_a_turned ?zz_l_turned ?zz_c_turned ?zz_k_turned ?zz_a_beyond ?zz_l_beyond ?zz_c_beyond ?zz_k_beyond ?zz_a_foot ?zz_l_foot ?zz_c_foot ?zz_k_foot ?zz_a_mirrored ?zz_l_mirrored ?zz_c_mirrored ?zz_k_mirrored ?zz_a_second ?zz_l_second ?zz_c_second ?zz_k_second ?zz_a_crossed ?zz_l_crossed ?zz_c_crossed ?zz_k_crossed ?zz_a_meet ?zz_l_meet ?zz_c_meet ?zz_k_meet ?zz_a_centre ?zz_l_centre ?zz_c_centre ?zz_k_centre ?zz_a_made ?zz_l_made ?zz_c_made ?zz_k_made ?zz_a_number ?zz_l_number ?zz_c_number ?zz_k_number ?zz_a_scaled ?zz_l_scaled ?zz_c_scaled ?zz_k_scaled ?zz_a_plus ?zz_l_plus ?zz_c_plus ?zz_k_plus ?zz_a_minus ?zz_l_minus ?zz_c_minus ?zz_k_minus ?zz_a_times ?zz_l_times ?zz_c_times ?zz_k_times ?zz_a_row ?zz_l_row ?zz_c_row ?zz_k_row ?zz_a_start ?zz_l_start ?zz_c_start ?zz_k_start ?zz_a_draw ?zz_l_draw ?zz_c_draw ?zz_k_draw ?zz_a_same ?zz_l_same ?zz_c_same ?zz_k_same ?zz_a_names ?zz_l_names ?zz_c_names ?zz_k_names ?zz_a_words ?zz_l_words ?zz_c_words ?zz_k_words ?zz_a_lel ?zz_l_lel ?zz_c_lel ?zz_k_lel ?zz_a_lbt ?zz_l_lbt ?zz_c_lbt ?zz_k_lbt ?zz_a_lnm ?zz_l_lnm ?zz_c_lnm ?zz_k_lnm ?zz_a_fault ?zz_l_fault ?zz_c_fault ?zz_k_fault ?zz_a_light ?zz_l_light ?zz_c_light ?zz_k_light ?zz_a_lstep ?zz_l_lstep ?zz_c_lstep ?zz_k_lstep ?zz_a_ask ?zz_l_ask ?zz_c_ask ?zz_k_ask ?zz_a_right ?zz_l_right ?zz_c_right ?zz_k_right ?zz_a_spoilt ?zz_l_spoilt ?zz_c_spoilt ?zz_k_spoilt ?zz_a_llet ?zz_l_llet ?zz_c_llet ?zz_k_llet ?zz_a_ref ?zz_l_ref ?zz_c_ref ?zz_k_ref ?zz_a_full ?zz_l_full ?zz_c_full ?zz_k_full ?zz_a_added ?zz_l_added ?zz_c_added ?zz_k_added ?zz_a_law ?zz_l_law ?zz_c_law ?zz_k_law ?zz_aB ?zz_xB ?zz_gB ?zz_rB ?zz_iB ?zz_tB ?zz_eB ?zz_oG ?zz_oT ?zz_sSV ?zz_sSM ?zz_sMV ?zz_sMI ?zz_sMS ?zz_aLets ?zz_aFour ?zz_aGr ?zz_aP12 ?zz_aU8 ?zz_aRad ?zz_aF ?zz_xF ?zz_eF_ ?zz_lF_ ?zz_wF_ ?zz_aU ?zz_xU ?zz_eU_ ?zz_lU_ ?zz_wU_ ?zz_aL ?zz_xL ?zz_eL_ ?zz_lL_ ?zz_wL_ ?zz_aM ?zz_xM ?zz_eM_ ?zz_lM_ ?zz_wM_ ?zz_z_len ?zz_z_int ?zz_z_abs ?zz_z_str ?zz_z_all ?zz_z_tuple ?zz_z_isinstance ?zz_z_bool ?zz_z_list ?zz_z_range ?zz_z_enumerate ?zz_z_sum ?zz_z_sorted ?zz_z_divmod ?zz_z_dict
    (case zz_axV => k_is)
    (case zz_xxV => k_is)
    (case zz_sxV => k_is)
    (case zz_gxV => k_is)
    (case zz_hxV => k_is)
    (case zz_nxV => k_is)
    (case zz_cxV => k_is)
    (case zz_ixV => k_is)
    (case zz_txV => k_is)
    (case zz_lxV => k_is)
    (case zz_dxV => k_is)
    (case zz_kxV => k_is)
    (case zz_kkxV => k_is)
    (case zz_TxV => k_is)
    (case zz_axS => k_is)
    (case zz_xxS => k_is)
    (case zz_sxS => k_is)
    (case zz_gxS => k_is)
    (case zz_hxS => k_is)
    (case zz_nxS => k_is)
    (case zz_cxS => k_is)
    (case zz_ixS => k_is)
    (case zz_txS => k_is)
    (case zz_lxS => k_is)
    (case zz_dxS => k_is)
    (case zz_kxS => k_is)
    (case zz_kkxS => k_is)
    (case zz_TxS => k_is)
    (case zz_axI => k_is)
    (case zz_xxI => k_is)
    (case zz_sxI => k_is)
    (case zz_gxI => k_is)
    (case zz_hxI => k_is)
    (case zz_nxI => k_is)
    (case zz_cxI => k_is)
    (case zz_ixI => k_is)
    (case zz_txI => k_is)
    (case zz_lxI => k_is)
    (case zz_dxI => k_is)
    (case zz_kxI => k_is)
    (case zz_kkxI => k_is)
    (case zz_TxI => k_is)
    (case zz_axM => k_is)
    (case zz_xxM => k_is)
    (case zz_sxM => k_is)
    (case zz_gxM => k_is)
    (case zz_hxM => k_is)
    (case zz_nxM => k_is)
    (case zz_cxM => k_is)
    (case zz_ixM => k_is)
    (case zz_txM => k_is)
    (case zz_lxM => k_is)
    (case zz_dxM => k_is)
    (case zz_kxM => k_is)
    (case zz_kkxM => k_is)
    (case zz_TxM => k_is)
    (case zz_a_CF => k_is)
    (case zz_CF_pg => k_is)
    (case zz_CF_hd => k_is)
    (case zz_CF_po => k_is)
    (case zz_CF_sa => k_is)
    (case zz_CF_mk => k_is)
    (case zz_CF_kp => k_is)
    (case zz_F_nN => k_is)
    (case zz_F_nW => k_is)
    (case zz_F_nP => k_is)
    (case zz_a_finit => k_is)
    (case zz_f_finit => k_is)
    (case zz_l_finit => k_is)
    (case zz_c_finit => k_is)
    (case zz_k_finit => k_is)
    (case zz_a_key => k_is)
    (case zz_f_key => k_is)
    (case zz_l_key => k_is)
    (case zz_c_key => k_is)
    (case zz_k_key => k_is)
    (case zz_a_CR => k_is)
    (case zz_CR_pg => k_is)
    (case zz_CR_hd => k_is)
    (case zz_CR_po => k_is)
    (case zz_CR_sa => k_is)
    (case zz_CR_mk => k_is)
    (case zz_CR_kp => k_is)
    (case zz_CR_in => k_is)
    (case zz_a_r0 => k_is)
    (case zz_f_r0 => k_is)
    (case zz_l_r0 => k_is)
    (case zz_c_r0 => k_is)
    (case zz_k_r0 => k_is)
    (case zz_a_r1 => k_is)
    (case zz_f_r1 => k_is)
    (case zz_l_r1 => k_is)
    (case zz_c_r1 => k_is)
    (case zz_k_r1 => k_is)
    (case zz_a_r2 => k_is)
    (case zz_f_r2 => k_is)
    (case zz_l_r2 => k_is)
    (case zz_c_r2 => k_is)
    (case zz_k_r2 => k_is)
    (case zz_a_r3 => k_is)
    (case zz_f_r3 => k_is)
    (case zz_l_r3 => k_is)
    (case zz_c_r3 => k_is)
    (case zz_k_r3 => k_is)
    (case zz_a_r4 => k_is)
    (case zz_f_r4 => k_is)
    (case zz_l_r4 => k_is)
    (case zz_c_r4 => k_is)
    (case zz_k_r4 => k_is)
    (case zz_a_C => k_is)
    (case zz_C_pg => k_is)
    (case zz_C_hd => k_is)
    (case zz_C_po => k_is)
    (case zz_C_sa => k_is)
    (case zz_C_mk => k_is)
    (case zz_C_kp => k_is)
    (case zz_C_nS => k_is)
    (case zz_C_nU => k_is)
    (case zz_C_nT => k_is)
    (case zz_a_cinit => k_is)
    (case zz_f_cinit => k_is)
    (case zz_l_cinit => k_is)
    (case zz_c_cinit => k_is)
    (case zz_k_cinit => k_is)
    (case zz_a_add => k_is)
    (case zz_f_add => k_is)
    (case zz_l_add => k_is)
    (case zz_c_add => k_is)
    (case zz_k_add => k_is)
    (case zz_a_chk => k_is)
    (case zz_f_chk => k_is)
    (case zz_l_chk => k_is)
    (case zz_c_chk => k_is)
    (case zz_k_chk => k_is)
    (case zz_a_steps => k_is)
    (case zz_f_steps => k_is)
    (case zz_l_steps => k_is)
    (case zz_c_steps => k_is)
    (case zz_k_steps => k_is)
    (case zz_a_points => k_is)
    (case zz_f_points => k_is)
    (case zz_l_points => k_is)
    (case zz_c_points => k_is)
    (case zz_k_points => k_is)
    (case zz_a_unks => k_is)
    (case zz_f_unks => k_is)
    (case zz_l_unks => k_is)
    (case zz_c_unks => k_is)
    (case zz_k_unks => k_is)
    (case zz_a_isint => k_is)
    (case zz_l_isint => k_is)
    (case zz_c_isint => k_is)
    (case zz_k_isint => k_is)
    (case zz_a_isseq => k_is)
    (case zz_l_isseq => k_is)
    (case zz_c_isseq => k_is)
    (case zz_k_isseq => k_is)
    (case zz_a_isname => k_is)
    (case zz_l_isname => k_is)
    (case zz_c_isname => k_is)
    (case zz_k_isname => k_is)
    (case zz_a_formed => k_is)
    (case zz_l_formed => k_is)
    (case zz_c_formed => k_is)
    (case zz_k_formed => k_is)
    (case zz_a_wrong => k_is)
    (case zz_l_wrong => k_is)
    (case zz_c_wrong => k_is)
    (case zz_k_wrong => k_is)
    (case zz_a_member => k_is)
    (case zz_l_member => k_is)
    (case zz_c_member => k_is)
    (case zz_k_member => k_is)
    (case zz_a_elders => k_is)
    (case zz_l_elders => k_is)
    (case zz_c_elders => k_is)
    (case zz_k_elders => k_is)
    (case zz_a_newunk => k_is)
    (case zz_l_newunk => k_is)
    (case zz_c_newunk => k_is)
    (case zz_k_newunk => k_is)
    (case zz_a_dif => k_is)
    (case zz_l_dif => k_is)
    (case zz_c_dif => k_is)
    (case zz_k_dif => k_is)
    (case zz_a_placed => k_is)
    (case zz_l_placed => k_is)
    (case zz_c_placed => k_is)
    (case zz_k_placed => k_is)
    (case zz_a_slid => k_is)
    (case zz_l_slid => k_is)
    (case zz_c_slid => k_is)
    (case zz_k_slid => k_is)
    (case zz_a_parted => k_is)
    (case zz_l_parted => k_is)
    (case zz_c_parted => k_is)
    (case zz_k_parted => k_is)
    (case zz_a_moved => k_is)
    (case zz_l_moved => k_is)
    (case zz_c_moved => k_is)
    (case zz_k_moved => k_is)
    (case zz_a_shifted => k_is)
    (case zz_l_shifted => k_is)
    (case zz_c_shifted => k_is)
    (case zz_k_shifted => k_is)
    (case zz_a_turned => k_is)
    (case zz_l_turned => k_is)
    (case zz_c_turned => k_is)
    (case zz_k_turned => k_is)
    (case zz_a_beyond => k_is)
    (case zz_l_beyond => k_is)
    (case zz_c_beyond => k_is)
    (case zz_k_beyond => k_is)
    (case zz_a_foot => k_is)
    (case zz_l_foot => k_is)
    (case zz_c_foot => k_is)
    (case zz_k_foot => k_is)
    (case zz_a_mirrored => k_is)
    (case zz_l_mirrored => k_is)
    (case zz_c_mirrored => k_is)
    (case zz_k_mirrored => k_is)
    (case zz_a_second => k_is)
    (case zz_l_second => k_is)
    (case zz_c_second => k_is)
    (case zz_k_second => k_is)
    (case zz_a_crossed => k_is)
    (case zz_l_crossed => k_is)
    (case zz_c_crossed => k_is)
    (case zz_k_crossed => k_is)
    (case zz_a_meet => k_is)
    (case zz_l_meet => k_is)
    (case zz_c_meet => k_is)
    (case zz_k_meet => k_is)
    (case zz_a_centre => k_is)
    (case zz_l_centre => k_is)
    (case zz_c_centre => k_is)
    (case zz_k_centre => k_is)
    (case zz_a_made => k_is)
    (case zz_l_made => k_is)
    (case zz_c_made => k_is)
    (case zz_k_made => k_is)
    (case zz_a_number => k_is)
    (case zz_l_number => k_is)
    (case zz_c_number => k_is)
    (case zz_k_number => k_is)
    (case zz_a_scaled => k_is)
    (case zz_l_scaled => k_is)
    (case zz_c_scaled => k_is)
    (case zz_k_scaled => k_is)
    (case zz_a_plus => k_is)
    (case zz_l_plus => k_is)
    (case zz_c_plus => k_is)
    (case zz_k_plus => k_is)
    (case zz_a_minus => k_is)
    (case zz_l_minus => k_is)
    (case zz_c_minus => k_is)
    (case zz_k_minus => k_is)
    (case zz_a_times => k_is)
    (case zz_l_times => k_is)
    (case zz_c_times => k_is)
    (case zz_k_times => k_is)
    (case zz_a_row => k_is)
    (case zz_l_row => k_is)
    (case zz_c_row => k_is)
    (case zz_k_row => k_is)
    (case zz_a_start => k_is)
    (case zz_l_start => k_is)
    (case zz_c_start => k_is)
    (case zz_k_start => k_is)
    (case zz_a_draw => k_is)
    (case zz_l_draw => k_is)
    (case zz_c_draw => k_is)
    (case zz_k_draw => k_is)
    (case zz_a_same => k_is)
    (case zz_l_same => k_is)
    (case zz_c_same => k_is)
    (case zz_k_same => k_is)
    (case zz_a_names => k_is)
    (case zz_l_names => k_is)
    (case zz_c_names => k_is)
    (case zz_k_names => k_is)
    (case zz_a_words => k_is)
    (case zz_l_words => k_is)
    (case zz_c_words => k_is)
    (case zz_k_words => k_is)
    (case zz_a_lel => k_is)
    (case zz_l_lel => k_is)
    (case zz_c_lel => k_is)
    (case zz_k_lel => k_is)
    (case zz_a_lbt => k_is)
    (case zz_l_lbt => k_is)
    (case zz_c_lbt => k_is)
    (case zz_k_lbt => k_is)
    (case zz_a_lnm => k_is)
    (case zz_l_lnm => k_is)
    (case zz_c_lnm => k_is)
    (case zz_k_lnm => k_is)
    (case zz_a_fault => k_is)
    (case zz_l_fault => k_is)
    (case zz_c_fault => k_is)
    (case zz_k_fault => k_is)
    (case zz_a_light => k_is)
    (case zz_l_light => k_is)
    (case zz_c_light => k_is)
    (case zz_k_light => k_is)
    (case zz_a_lstep => k_is)
    (case zz_l_lstep => k_is)
    (case zz_c_lstep => k_is)
    (case zz_k_lstep => k_is)
    (case zz_a_ask => k_is)
    (case zz_l_ask => k_is)
    (case zz_c_ask => k_is)
    (case zz_k_ask => k_is)
    (case zz_a_right => k_is)
    (case zz_l_right => k_is)
    (case zz_c_right => k_is)
    (case zz_k_right => k_is)
    (case zz_a_spoilt => k_is)
    (case zz_l_spoilt => k_is)
    (case zz_c_spoilt => k_is)
    (case zz_k_spoilt => k_is)
    (case zz_a_llet => k_is)
    (case zz_l_llet => k_is)
    (case zz_c_llet => k_is)
    (case zz_k_llet => k_is)
    (case zz_a_ref => k_is)
    (case zz_l_ref => k_is)
    (case zz_c_ref => k_is)
    (case zz_k_ref => k_is)
    (case zz_a_full => k_is)
    (case zz_l_full => k_is)
    (case zz_c_full => k_is)
    (case zz_k_full => k_is)
    (case zz_a_added => k_is)
    (case zz_l_added => k_is)
    (case zz_c_added => k_is)
    (case zz_k_added => k_is)
    (case zz_a_law => k_is)
    (case zz_l_law => k_is)
    (case zz_c_law => k_is)
    (case zz_k_law => k_is)
    (case zz_aB => k_is)
    (case zz_xB => k_is)
    (case zz_gB => k_is)
    (case zz_rB => k_is)
    (case zz_iB => k_is)
    (case zz_tB => k_is)
    (case zz_eB => k_is)
    (case zz_oG => k_is)
    (case zz_oT => k_is)
    (case zz_sSV => k_is)
    (case zz_sSM => k_is)
    (case zz_sMV => k_is)
    (case zz_sMI => k_is)
    (case zz_sMS => k_is)
    (case zz_aLets => k_is)
    (case zz_aFour => k_is)
    (case zz_aGr => k_is)
    (case zz_aP12 => k_is)
    (case zz_aU8 => k_is)
    (case zz_aRad => k_is)
    (case zz_aF => k_is)
    (case zz_xF => k_is)
    (case zz_eF_ => (repeat (first | exact CN.Ent.nil | refine CN.Ent.cons (by first | exact ⟨_, rfl⟩ | exact rfl) ?_)))
    (case zz_lF_ => (repeat (first | exact True.intro | refine ⟨⟨_, _, rfl, rfl⟩, ?_⟩)))
    (case zz_wF_ => first | rfl | decide | decide +kernel)
    (case zz_aU => k_is)
    (case zz_xU => k_is)
    (case zz_eU_ => (repeat (first | exact CN.Ent.nil | refine CN.Ent.cons (by first | exact ⟨_, rfl⟩ | exact rfl) ?_)))
    (case zz_lU_ => (repeat (first | exact True.intro | refine ⟨⟨_, _, rfl, rfl⟩, ?_⟩)))
    (case zz_wU_ => first | rfl | decide | decide +kernel)
    (case zz_aL => k_is)
    (case zz_xL => k_is)
    (case zz_eL_ => (repeat (first | exact CN.Ent.nil | refine CN.Ent.cons (by first | exact ⟨_, rfl⟩ | exact rfl) ?_)))
    (case zz_lL_ => (repeat (first | exact True.intro | refine ⟨⟨_, _, rfl, rfl⟩, ?_⟩)))
    (case zz_wL_ => first | rfl | decide | decide +kernel)
    (case zz_aM => k_is)
    (case zz_xM => k_is)
    (case zz_eM_ => (repeat (first | exact CN.Ent.nil | refine CN.Ent.cons (by first | exact ⟨_, rfl⟩ | exact rfl) ?_)))
    (case zz_lM_ => (repeat (first | exact True.intro | refine ⟨⟨_, _, rfl, rfl⟩, ?_⟩)))
    (case zz_wM_ => first | rfl | decide | decide +kernel)
    (case zz_z_len => k_is)
    (case zz_z_int => k_is)
    (case zz_z_abs => k_is)
    (case zz_z_str => k_is)
    (case zz_z_all => k_is)
    (case zz_z_tuple => k_is)
    (case zz_z_isinstance => k_is)
    (case zz_z_bool => k_is)
    (case zz_z_list => k_is)
    (case zz_z_range => k_is)
    (case zz_z_enumerate => k_is)
    (case zz_z_sum => k_is)
    (case zz_z_sorted => k_is)
    (case zz_z_divmod => k_is)
    (case zz_z_dict => k_is)

