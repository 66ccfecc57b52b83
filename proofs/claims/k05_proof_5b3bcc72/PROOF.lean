import PyProof.Rows.All
import Wide.All
import OpenK.AllK
import Wide.FinOn
import HandS.ForMost
import HandS.Exc
import HandS.WordsExc
import HandS.ExcInit
import HandS.FStr
import HandS.ClsMeth
import HandS.ExcCtx
import KE.KExcIs
import HandS.ExcField
import HandS.IsInst
import KE.KeyNested
import PyProof.DictRoadsH
import PyProof.DictMoreH
import HandS.Base
import HandS.Call
import HandS.List
import HandS.Dict
import HandS.Iter
import HandS.DictTup
import HandS.TupLen
import HandS.OwnEq
import KE.KDictWalk
import HandS.DictComp
import HandS.Comp
import KE.SortData
import HandS.Conv
import HandS.WordsDict
import HandS.Wide
import HandS.Words
import HandS.More
import HandS.Walk
import HandS.Codes
import HandS.ListItems
import HandS.SortKw
import KE.DatumOrd
import KE.KDictList
import HandS.TryOnly
import KE.DataCmp
import HandS.WideBits
import HandS.AnyAll
import HandS.HotCalls
import HandS.Set
import HandS.SetKeys
import HandS.SetBool
import HandS.TupSets
import KE.SortKeyHeap
import KE.KSortKey
import HandS.Lambda
import HandS.Defaults
import HandS.Text
import KE.KDictPairs
import HandS.Gcd
import PyProof.ListIndex
import KE.KDictDisplayH
import KE.DataMinMax
import HandS.Ends
import HandS.EndTab
import HandS.EndOwn
import HandS.NestedK
import KE.KNestM
import PySem.Challenge.RW_figurehold_k05_numbers_by_fractions
set_option Elab.async false
set_option linter.all false
set_option maxRecDepth 100000
set_option maxHeartbeats 4000000
/-! Errors of own classes under an own base under Exception; each __init__ calls the base's, then keeps one field. -/
namespace PySem
namespace OwnErr
open PySem.W PySem.Calls PyProof.Rows PySem.HandSPX Builtin Builtin.ObjectAttr
def endE : List Value := [.type "Exception", .type "BaseException", .type "object"]
/-- a class's ancestors: own classes, then Exception's -/
def Line (l : List Value) : Prop := ∃ own : List Addr, l = own.map Value.ref ++ endE
theorem Line.cons {l : List Value} {C : Addr} (h : Line l) : Line (.ref C :: l) := by
  obtain ⟨own, e⟩ := h
  exact ⟨C :: own, by rw [e]; rfl⟩
theorem Line.has {l : List Value} (h : Line l) (T : String) : l.contains (.type T) = endE.contains (.type T) := by
  obtain ⟨own, rfl⟩ := h
  induction own with
  | nil => rfl
  | cons c r ih =>
    show List.contains (Value.ref c :: (r.map Value.ref ++ endE)) (Value.type T) = _
    rw [List.contains_cons, ih]
    exact Bool.false_or _
theorem Line.pass {l : List Value} (h : Line l) (me : Value) : refuseLoop me "__setattr__" l = pure () := by
  obtain ⟨own, rfl⟩ := h
  induction own with
  | nil => exact F.store_Exception.passes me
  | cons c r ih =>
    show refuseLoop me "__setattr__" (Value.ref c :: (r.map Value.ref ++ endE)) = _
    rw [refuseLoop_ref, ih]
theorem Line.some {l : List Value} (h : Line l) : l.isEmpty = false := by
  obtain ⟨own, rfl⟩ := h
  cases own <;> rfl
section
variable {prog : Program} {w : World} {A : Around} {E : Value → Shared → Prop} {R : Result → Shared → Prop} {hp : Heap} {g : Array GenState} {d : Drawn} {t : Nat} {os : OsState}
/-- the first field of an error at e that has no dict as yet: the dict at dx is laid -/
theorem first_field {K : W.Frag} {name : Str} {tk : Tok} {v : Value} {e C : Addr} {vs : Array Value} {cd : ClassData} (kin : K.In hp) (he : hp.get? e = some { cls := .ref C, data := .fields vs })
    (hcd : W.clsIn K C = some cd) (hl : Line cd.mro) (hh : cd.hasDict = true) (no : W.findIn K (.ref C) name = some none)
    (go : ∀ h2 tk2 dx, (∀ b o, b ≠ e → hp.get? b = some o → h2.get? b = some o) → hp.objs.size ≤ dx → dx ≠ e → h2.get? e = some { cls := .ref C, dict := some dx, data := .fields vs } →
      h2.Ns1 dx (fun y => if y = name then some v else none) → R (.ok (.ret .none)) ⟨h2, g, d, tk2, os⟩) :
    codeAny (model prog w) A (.call (.builtin "object.__setattr__") ⟨[.ref e, .str name tk, v], []⟩) R ⟨hp, g, d, t, os⟩ := by
  have at_ : W.InstAt hp e { cls := .ref C, data := .fields vs } C none := ⟨he, rfl, rfl, trivial⟩
  have so := F.store_object
  have mro : W.Looks (model prog w) hp (mroOf (.ref C)) cd.mro := (W.looks_clsIn kin hcd).andThen .now
  have old : e ≠ hp.objs.size := Nat.ne_of_lt (Heap.lt_size he)
  have isObj : W.Looks (model prog w) hp (isInstance (.ref e) (.type "object")) true :=
    at_.type.andThen (W.looks_mroIn kin (by unfold W.mroIn; rw [hcd, Option.bind_some, hl.some, hl.has]; decide +kernel))
  have cls : W.Looks (model prog w) hp (classData C) cd := W.looks_clsIn kin hcd
  have taker : W.Looks (model prog w) hp (storeTaker? none) none := .now
  refine codeAny_call_builtin so.slot.plain so.entry (@W.check_slot (model prog w) _ _ ⟨hp, g, d, t, os⟩ "object.__setattr__" "object" "__setattr__" (.ref e) [.str name tk, v] [] _ so.kind so.split isObj (so.args (.ref e) (.str name tk) v) ?_)
  rw [W.osa_eq, refuse_eq]
  refine wpAny_bind (wpAny_bind (at_.type.at (wpAny_bind (mro.at ?_))))
  rw [hl.pass]
  refine wpAny_pure (wpAny_bind (at_.type.at (wpAny_bind ((W.looks_findIn kin no).at (wpAny_bind (taker.at ?_))))))
  obtain ⟨_, _, _, _, _, hd, _, _, _, _, _⟩ := cd
  obtain rfl : hd = true := hh
  show wpAny _ _ (storeInOwnDict (.ref e) (.ref C) (.str name tk) name v false) _ _ _
  unfold storeInOwnDict ownDictForStores
  repeat (first | with_reducible refine HandSPX.store_in_new ?_ ?_ | with_reducible refine wpAny_loadPart_at he ?_ | with_reducible refine cls.at ?_ | wp_step)
  · exact ⟨_, #[], _, (Heap.get?_update_ne _ _ _ _ old.symm).trans (Heap.get?_push_at rfl rfl), rfl, fun z hz => absurd hz (by simp), fun _ => rfl⟩
  · intro h2 tk2 hn hs
    have there : (hp.push { cls := .type "dict", data := .dict #[] }).get? e = some { cls := .ref C, data := .fields vs } := Heap.get?_push_of_some _ he
    exact go h2 tk2 hp.objs.size (fun b o hb ho => (hs.2 b (Nat.ne_of_lt (Heap.lt_size ho))).trans ((Heap.get?_update_ne _ _ _ _ hb).trans (Heap.get?_push_of_some _ ho))) (Nat.le_refl _) old.symm
      ((hs.2 e old).trans (Heap.get?_update_self _ there rfl)) hn
end
end OwnErr
end PySem

namespace L2
open PySem PySem.Spec PyProof.Rows
/-- what the written part says of such a class -/
structure ErrC (K : PySem.W.Frag) (C : Addr) : Prop where
  cls : ∃ nm q N bs bm sn sub ab col dd k0 k1 k2 k3 k5, K.lookup C = some (excClassObj nm q C N bs bm true sn sub ab col dd k0 k1 k2 k3 k5 "Exception.__new__") ∧ PySem.OwnErr.Line bm
  sa : PySem.W.findIn K (.ref C) "__setattr__" = some (some (.builtin "object.__setattr__"))
  exC : PySem.W.subIn K (.ref C) (.type "BaseException") = some true
  tyC : PySem.W.typeIn K (.ref C) = some (.type "type")
  kC : PySem.W.keepIn K (.ref C) = true
/-- .. and of the base whose __init__ is called by name -/
structure BaseC (K : PySem.W.Frag) (B : Addr) : Prop where
  ga : PySem.W.specialIn K (.ref B) "__getattribute__" = some (some (.builtin "type.__getattribute__"))
  rd : PySem.W.readsIn (mc := .type "type") K B = true
  ini : PySem.W.findCls K (.ref B) (.type "type") "__init__" = some (.val (.builtin "Exception.__init__"))
/-- self.f = e, the error's first field -/
def tField (K : PySem.W.Frag) (f : Str) (to te : TE) : TS := fun D σ H => te σ H fun y H1 => to σ H1 fun x H2 => ∃ a C : Addr, x = .ref a ∧ ErrC K C ∧ PySem.W.findIn K (.ref C) f = some none ∧ H2 a = some (exo a C none) ∧
  ∀ dx, H2 dx = none → dx ≠ a → D.nx σ (upd (upd H2 dx (exd dx [(f, y)])) a (exo a C (some dx)))
/-- Base.__init__(self, ..) -/
def tBaseInit (K : PySem.W.Frag) (ta : TA) : TE := fun σ H Q => ta σ H fun vs H1 => ∃ (a C : Addr) (ws : List V), vs = .ref a :: ws ∧ ws.length ≤ 1000 ∧ ErrC K C ∧ H1 a = some (exo a C none) ∧ Q .non H1
/-- C(e, ..), C's own __init__ keeping sp -/
def tErr (C : Addr) (sp : Sp) (ta : TA) : St → Hp → XK → Prop := fun σ H Q => ta σ H fun vs H1 => vs.length ≤ 1000 ∧ ∀ a, H1 a = none → sp (.ref a :: vs) (upd H1 a (exo a C none))
  (fun v H2 => v = .non ∧ ∃ (d : Addr) (fs : List (Str × V)), H2 a = some (exo a C (some d)) ∧ H2 d = some (exd d fs) ∧ H1 d = none ∧ Q (.ref C) (some d) (upd (del H2 a) d (.xd fs))) (fun _ _ _ => False)
section
variable {X : Cx} {pins : List (Addr × Obj)} {σ : St} {H : Hp} {s : Shared} {a C : Addr}
theorem ErrC.data (T : ErrC X.K C) : ∃ cd, PySem.W.clsIn X.K C = some cd ∧ PySem.OwnErr.Line cd.mro ∧ cd.hasDict = true := by
  obtain ⟨nm, q, N, bs, bm, sn, sub, ab, col, dd, k0, k1, k2, k3, k5, hC, hl⟩ := T.cls
  refine ⟨{ name := nm, bases := bs, mro := .ref C :: bm, ns := N, qualname := q, hasDict := true, slotNames := sn, subclasses := sub, abstract := ab, collection := col, hasDel := false }, ?_, hl.cons, rfl⟩
  unfold PySem.W.clsIn
  rw [hC] <;> rfl
theorem field_first {f : Str} {y : V} {u : Value} {Q : Unit → Shared → Prop} {E : Value → Shared → Prop} {A : Around} (T : ErrC X.K C) (I : Inv X pins σ H s) (ea : H a = some (exo a C none)) (no : PySem.W.findIn X.K (.ref C) f = some none) (ry : RelV y u)
    (go : ∀ dx s2, H dx = none → dx ≠ a → Inv X pins σ (upd (upd H dx (exd dx [(f, y)])) a (exo a C (some dx))) s2 → Q () s2) : wpAny (model X.prog X.w) A (setAttr (.ref a) f u) Q E s := by
  obtain ⟨cd, hcd, hl, hd⟩ := T.data
  obtain ⟨t1, ho⟩ := exo_at I.hok ea
  obtain ⟨hp, g, dr, t, os⟩ := s
  refine PySem.W.set_plain I.kIn (ox := { cls := .ref C, dict := none, data := .fields #[.ref t1, .none, .none, .none, .bool false, .none] }) (od := none) ⟨ho, rfl, rfl, trivial⟩ T.sa ?_
  refine PySem.OwnErr.first_field I.kIn ho hcd hl hd no (fun h2 t2 dx keep new ne hx hn => ?_)
  have fresh : H dx = none := I.hok.fresh new
  have neD : ∀ {b : Addr} {o : Obj}, hp.get? b = some o → b ≠ dx := fun q => Nat.ne_of_lt (Nat.lt_of_lt_of_le (Heap.lt_size q) new)
  have neA : ∀ {b : Addr}, H b = none → b ≠ a := fun n z => by
    rw [z, ea] at n
    cases n
  have un : Un X.fs [] H (upd (upd H dx (exd dx [(f, y)])) a (exo a C (some dx))) hp h2 :=
    { keep := fun b o q n _ _ => keep b o (neA n) q
      slot := fun b o q n _ _ => ⟨o.slots, keep b o (neA n) q⟩
      free := fun b o q n _ => (upd_ne (neA n)).trans ((upd_ne (neD q)).trans n)
      there := fun b o q _ => by
        by_cases hb : b = a
        · exact ⟨_, hb.symm ▸ hx⟩
        · exact ⟨o, keep b o hb q⟩
      tups := fun b xs q => (upd_ne (at_ne ea q exo_tup)).trans ((upd_ne (ne_of_none q fresh)).trans q)
      frzs := fun b o v q => (upd_ne (at_ne ea q exo_frz)).trans ((upd_ne (ne_of_none q fresh)).trans q)
      tbls := fun b ps q => ⟨#[], ((upd_ne (at_ne ea q exo_tbl)).trans ((upd_ne (ne_of_none q fresh)).trans q)).trans (by simp)⟩ }
  refine go dx _ fresh ne (I.un (t' := t2) un fun b o q => ?_)
  by_cases hb : b = a
  · subst hb
    rw [upd_same] at q
    cases q
    exact exo_ok hx
  · rw [upd_ne hb] at q
    by_cases hd : b = dx
    · subst hd
      rw [upd_same] at q
      cases q
      exact exd_ok hn (relO_put (fs := []) ry fun _ => True.intro)
    · rw [upd_ne hd] at q
      refine (I.hok b o q).stay (fun c v hc z => keep c v ?_ z) (fun c hc => ?_) (fun c xs hc => ?_)
      · exact hc.elim (fun e => by rw [e]; exact hb) fun e => at_ne ea e exo_own
      · exact (upd_ne (at_ne ea hc exo_own)).trans ((upd_ne (ne_of_none hc fresh)).trans hc)
      · exact (upd_ne (at_ne ea hc exo_tup)).trans ((upd_ne (ne_of_none hc fresh)).trans hc)
theorem base_init {us : List Value} {Q : Value → Shared → Prop} {E : Value → Shared → Prop} {A : Around} (T : ErrC X.K C) (I : Inv X pins σ H s) (ea : H a = some (exo a C none)) (hl : us.length ≤ sizeLine) (go : ∀ s2, Inv X pins σ H s2 → Q .none s2) :
    wpAny (model X.prog X.w) A (call (.builtin "Exception.__init__") (.ref a :: us)) Q E s := by
  obtain ⟨nm, q, N, bs, bm, sn, sub, ab, col, dd, k0, k1, k2, k3, k5, hC, hline⟩ := T.cls
  obtain ⟨t1, ho⟩ := exo_at I.hok ea
  obtain ⟨hp, g, dr, t, os⟩ := s
  refine wpAny_call (PySem.HandSPX.init_base F.excBase_Exception (fun T => hline.has T) (I.kIn _ _ hC) ho hl fun h2 t2 keep hx => ?_)
  have eq : upd H a (exo a C none) = H := funext fun b => by
    by_cases hb : b = a
    · rw [hb, upd_same, ea]
    · rw [upd_ne hb]
  have J := I.write (t' := t) (x := a) (e := a) (o := exo a C none) (by rw [ea]; exact True.intro) (.inl rfl) keep ⟨_, hx⟩ (exo_ok hx)
  exact go _ (eq ▸ J)
end
section
variable {X : Cx} {o e : Expr} {es : List Expr} {to te : TE} {ta : TA} {f : Str} {p p' p1 p2 pos : Pos}
theorem ps_field (ho : PE X o to) (he : PE X e te) (hs : swapsWith e (some (.Attribute o f p')) pos.line X.env = pure false := by rfl) : PS X (.Assign [.Attribute o f p'] e pos) (tField X.K f to te) :=
  ⟨fun pins s σ H D I h => plainObj_wpAny_Assign_Attribute (thn (he.run pins s σ H _ I h) fun _ s1 ⟨y, H1, I1, r1, q1⟩ => thn (ho.run pins s1 σ H1 _ I1 q1) fun u s2 ⟨x, H2, I2, r2, a, C, ex, T, no, ea, q⟩ => by
    subst ex
    obtain rfl : u = Value.ref a := r2
    exact field_first T I2 ea no r1 fun dx s3 n ne J => ⟨σ, _, J, q dx n ne⟩) hs⟩
theorem pe_base {x : Str} {B : Addr} {pl : Sem Bool} (T : BaseC X.K B) (hg : Gl X x) (hm : X.mg x = some (.ref B)) (ha : PA X (e :: es) ta)
    (hc : eval (.Call (.Attribute (.Name x p1) "__init__" p2) (e :: es) [] pos) X.env = (do
      let ov ← eval (.Name x p1) X.env
      standAt p2.atName
      let (f, first) ← holding [ov] (getMethod ov "__init__" pl)
      callWith pos f first (backTo pos (starEach (e :: es) X.env)) (backToKw pos (keywordEach [] X.env))) := by rfl)
    (hdb : (x == ("__debug__" : Str)) = false := by decide) (he : starEach (e :: es) X.env = (false, eval e X.env) :: starEach es X.env := by rfl) (hpl : (backTo pos (starEach es X.env)).any (·.1) = false := by rfl) :
    PE X (.Call (.Attribute (.Name x p1) "__init__" p2) (e :: es) [] pos) (tBaseInit X.K ta) := by
  refine ⟨fun pins s σ H Q I h => ?_⟩
  refine PySem.W.methodCall_KW (ld_glob I hg hm ?_ hdb) hc
  refine PySem.W.method_cls I.kIn T.ga (PySem.W.cls_value I.kIn T.rd T.ini (by decide +kernel) ?_)
  show wpAny _ _ (callWith pos (Value.builtin "Exception.__init__") [] (backTo pos (starEach (e :: es) X.env)) []) _ _ _
  refine PyProof.Rows.callWith_method1 (thn (ha.run pos pins _ σ H _ (I.tok _) h) fun us s1 ⟨vs, H1, I1, r1, a, C, ws, ev, hl, TC, ea, q⟩ => ?_) he hpl
  subst ev
  cases r1 with
  | @cons _ u0 _ ur ra rr =>
    obtain rfl : u0 = Value.ref a := ra
    exact base_init TC I1 ea (by rw [← Paired.length rr, sizeLine_eq]; omega) fun s2 J => ⟨.non, H1, J, rfl, q⟩
theorem pmk_err {CX : CXT} {x : Str} {C fI : Addr} {k : Nat} {fd : FuncData} {ps : List Str} {sp : Sp} (T : ErrC X.K C) (iC : PySem.W.findIn X.K (.ref C) "__init__" = some (some (.ref fI))) (tI : PySem.W.typeIn X.K (.ref fI) = some (.type "function"))
    (G : FnOk X.prog X.w X.K X.mg X.base CX k fI fd ps sp) (hr : Room (k + 1) X.A) (hb : Binds X.K fd ps []) (hx : Passes CX X (fun _ _ _ => False)) (hg : Gl X x) (hm : X.mg x = some (.ref C)) (ha : PA X (e :: es) ta)
    (hdb : (x == ("__debug__" : Str)) = false := by decide) (he : starEach (e :: es) X.env = (false, eval e X.env) :: starEach es X.env := by rfl) (hpl : (backTo pos (starEach es X.env)).any (·.1) = false := by rfl) :
    L2N.PMk X (.Call (.Name x p) (e :: es) [] pos) (tErr C sp ta) := by
  intro pins s σ H Q I h
  obtain ⟨nm, q, N, bs, bm, sn, sub, ab, col, dd, k0, k1, k2, k3, k5, hC, hline⟩ := T.cls
  refine wpAny_Call_Name_kw (ld_glob I hg hm ?_ hdb)
  refine PySem.W.callWith_K (h₀ := X.base) I.ok.mod.kin T.kC (thn (ha.run pos pins s σ H _ I h) fun us s1 ⟨vs, H1, I1, r1, hz, q1⟩ => ⟨I1.kIn, ?_⟩) he hpl
  show wpAny _ _ (call (.ref C) us) _ _ _
  obtain ⟨hp, g, dr, tk, os⟩ := s1
  have big : hp.objs.size ≤ hp.objs.size + 1 := Nat.le_succ _
  have keep : ∀ b o, hp.get? b = some o → ((hp.push (PySem.W.kdv_tup us)).push (PySem.HandSPX.excO C hp.objs.size)).get? b = some o := fun _ _ z => Heap.get?_push_of_some _ (Heap.get?_push_of_some _ z)
  have made : ((hp.push (PySem.W.kdv_tup us)).push (PySem.HandSPX.excO C hp.objs.size)).get? (hp.objs.size + 1) = some (PySem.HandSPX.excO C hp.objs.size) := by heap_get
  have hq := q1 (hp.objs.size + 1) (I1.hok.fresh big)
  have I2 := I1.laid (t' := tk) (a := hp.objs.size + 1) (o := exo (hp.objs.size + 1) C none) (h' := (hp.push (PySem.W.kdv_tup us)).push (PySem.HandSPX.excO C hp.objs.size)) keep big (exo_ok made)
  have r2 : Vals (V.ref (hp.objs.size + 1) :: vs) (Value.ref (hp.objs.size + 1) :: us) := .cons rfl r1
  have len : (Value.ref (hp.objs.size + 1) :: us).length = ps.length := r2.length.symm.trans (G.len _ _ _ _ hq)
  have few : us.length ≤ sizeLine := by
    rw [← Paired.length r1, sizeLine_eq]
    omega
  have bind := hb _ (Value.ref (hp.objs.size + 1) :: us) I2.kIn (by simpa using len)
  refine wpAny_call (PySem.HandSPX.call_own F.excBase_Exception (fun T => hline.has T) (I1.kIn _ _ hC) (PySem.W.looks_findIn I1.kIn iC) (fun me => PySem.W.bind_fn I1.kIn me tI) few
    (codeAny_mono (G.run _ X.stack _ _ ⟨Value.ref (hp.objs.size + 1) :: us, []⟩ (Value.ref (hp.objs.size + 1) :: us) _ _ (fun _ _ _ => False) (hr.make C us []) (I2.env0.make C us []) (by simpa using bind) r2 hq) fun r s2 hs2 => ?_))
  match r, hs2 with
  | .error er, z => exact hx pins σ _ _ er s2 I2 z
  | .ok (.ret u), ⟨v, H2, os2, bare2, un2, hok2, rv, ev, d, fs, ea, ed, hd1, q2⟩ =>
    subst ev
    obtain ⟨h2, g2, d2, t2, os'⟩ := s2
    obtain ⟨t0, G2, J, keepG, gone, there, na⟩ := mk_end0 (d2 := d2) (t2 := t2) I1 big keep un2 hok2 os2 bare2 ea ed hd1
    exact ⟨rv, _, _, _, ⟨G2, g2, d2, t2, os'⟩, _, .ref C, some d, rfl, J, keepG, gone, there, ⟨rfl, rfl, fun vs e => by cases e; rfl⟩, rfl, rfl, na, rfl, bare2, raises_own T.exC T.tyC, q2⟩
  | .ok .next, z => exact z.elim
  | .ok .brk, z => exact z.elim
  | .ok .cont, z => exact z.elim
end
end L2

set_option Elab.async false
set_option linter.all false
set_option maxRecDepth 100000
set_option maxHeartbeats 4000000
/-! try: .. except A as e: .. except B as e: ..: several clauses, one name. -/
namespace L2
open PySem PySem.Spec PyProof.Rows
/-- behind a suite the name's slot is empty -/
def Ends.gone (D : Ends) (i : Nat) : Ends := { nx := fun σ H => D.nx (σ.set i none) H, rt := D.rt, bk := fun σ H => D.bk (σ.set i none) H, ct := fun σ H => D.ct (σ.set i none) H }
/-- what the clauses wish, one behind the other -/
def wEach (K : PySem.W.Frag) (i : Nat) (Wout : WX) (D : Ends) : List (Value × (Addr → Value → Option Addr → TS)) → WX
  | [] => Wout
  | (c, ts) :: more => fun cls d σ H => ∃ b, PySem.W.exmOne K cls c = some b ∧ (b = true → ∀ a, H a = none → ts a cls d (D.gone i) (σ.set i (some (.ref a))) H) ∧ (b = false → wEach K i Wout D more cls d σ H)
inductive Clauses (X : Cx) (n : Str) : List ExceptHandler → List (Value × (Addr → Value → Option Addr → TS)) → Prop
  | nil : Clauses X n [] []
  | cons {x : Str} {c : Value} {ts : Addr → Value → Option Addr → TS} {first : Stmt} {suite : List Stmt} {np hp : Pos} {more : List ExceptHandler} {l : List (Value × (Addr → Value → Option Addr → TS))} (hc : Names X x c)
      (hs : ∀ (a : Addr) (oe : Obj) (cls : Value) (d : Option Addr) (pn : List (Addr × Obj)), L2N.Zn cls d oe → (∃ vs, oe.data = .fields vs) → PSs (X.suite a ((a, oe) :: pn)) (first :: suite) (ts a cls d)) (r : Clauses X n more l) :
      Clauses X n (.ExceptHandler (some (.Name x np)) (some n) (first :: suite) hp :: more) ((c, ts) :: l)
section
variable {X : Cx} {n : Str} {i : Nat} {body : List Stmt} {h₁ : ExceptHandler} {hs₁ : List ExceptHandler} {l : List (Value × (Addr → Value → Option Addr → TS))} {pos : Pos} {tb : WX → TS} {Wout : WX}
theorem SP.untry {pins : List (Addr × Obj)} {xe : Value → Shared → Prop} {D : Ends} {f : Flow} {s : Shared} (ok : X.Ok) (h : SP (X.tr (X.pn ++ pins) xe) [] D f s) : SP X pins D f s :=
  match f, h with
  | .next, ⟨σ, H, J, q⟩ => ⟨σ, H, J.ofTry ok, q⟩
  | .brk, ⟨σ, H, J, q⟩ => ⟨σ, H, J.ofTry ok, q⟩
  | .cont, ⟨σ, H, J, q⟩ => ⟨σ, H, J.ofTry ok, q⟩
  | .ret _, ⟨v, σ, H, J, r, q⟩ => ⟨v, σ, H, J.ofTry ok, r, q⟩
theorem ps_try_each (st : X.stack = X.env :: X.outer) (fr : X.env.frame = some X.env.locals) (nd : X.N.Nodup) (hi : X.N[i]? = some n) (lo : X.env.kindOf n = some .local) (tk : L2N.Takes X Wout)
    (hb : ∀ (W : WX) (pn : List (Addr × Obj)) (xe : Value → Shared → Prop), L2N.Takes (X.tr pn xe) W → PassesOwn (model X.prog X.w) X.A X.env xe → PSs (X.tr pn xe) body (tb W))
    (hh : Clauses X n (h₁ :: hs₁) l) : PS X (.Try body (h₁ :: hs₁) [] [] pos) (fun D σ H => tb (wEach X.K i Wout D l) D σ H) := by
  refine ⟨fun pins s σ H D I h => ?_⟩
  have ok := I.ok
  have frs_ : X.A.frames = some (X.env :: X.outer) := by rw [ok.frames, st]
  refine wpAny_Try_except ?_
  refine wpAny_mono ((hb (wEach X.K i Wout D l) (X.pn ++ pins) (fun e sa => wpAny (model X.prog X.w) X.A (noteFrame e X.env) (fun _ sb => wpAny (model X.prog X.w) X.A (setFlight e none) (fun _ sc =>
    wpAny (model X.prog X.w) X.A (handleBy e X.env (h₁ :: hs₁)) (SP X pins D) X.xe sc) X.xe sb) X.xe sa) (fun u s2 hu => ?_) PassesOwn.looking).run [] s σ H D (I.toTry _) h) (fun f s2 hf => ?_) (fun _ _ z => z)
  · obtain ⟨a, B, sI, pins2, σ2, H2, cls, d, rfl, J0, nb, up, sky, na, os, ag, wish⟩ := hu
    have J : Inv X pins σ2 H2 sI := J0.ofTry ok
    show wpAny (model X.prog X.w) X.A (noteFrame (.ref a) X.env) _ _ _
    refine L2N.Sky.land L2N.Zn.steady frs_ fr (by rw [← st]; exact sky) fun h3 fl3 up3 => ?_
    have J3 : Inv X pins σ2 H2 { s2 with heap := h3 } := J.landed nb fl3.1 (up.trans up3) os ag
    obtain ⟨oe3, vs3, he3, hz3, hd3⟩ := fl3.there
    -- the error is no frame
    have out : a ∉ frs (X.env :: X.outer) := fun hm => by
      obtain ⟨_, o, ho, hnf⟩ := fl3.2.2.1.mem hm
      rw [he3] at ho
      cases ho
      exact hnf _ hd3
    have nL : a ≠ X.env.locals := fun z => out (List.mem_filterMap.mpr ⟨X.env, List.mem_cons_self, by rw [fr, z]⟩)
    have nF : a ∉ X.fs := fun hm => by
      obtain ⟨ev, he, q⟩ := List.mem_filterMap.mp hm
      exact out (List.mem_filterMap.mpr ⟨ev, List.mem_cons_of_mem _ he, q⟩)
    have S3 := J3.suite he3 hd3 na nL nF
    have go : ∀ {hs2 : List ExceptHandler} {l2 : List (Value × (Addr → Value → Option Addr → TS))}, Clauses X n hs2 l2 → wEach X.K i Wout D l2 cls d σ2 H2 →
        wpAny (model X.prog X.w) X.A (handleBy (.ref a) X.env hs2) (SP X pins D) X.xe { s2 with heap := h3 } := by
      intro hs2 l2 hk
      induction hk with
      | nil =>
        intro wish2
        refine wpAny_handleBy_nil ?_
        obtain ⟨_, _, _, oe, vs, T, oT, ts2, he, hz, hd, h1, _⟩ := id fl3
        unfold PySem.passOn
        refine wpAny_bind (wpAny_field he hd h1 ?_)
        rw [if_neg (show ¬ ((Value.ref T == Value.none) = true) from by simp)]
        have last : wpAny (model X.prog X.w) X.A (setFlight (.ref a) X.env.frame) (fun _ s5 => wpAny (model X.prog X.w) X.A (throw (.ref a) : Sem Flow) (SP X pins D) X.xe s5) X.xe { s2 with heap := h3 } := by
          rw [fr]
          exact HandSPX.setFlight_upZ fl3 fun h4 hh4 up4 => wpAny_throw (tk _ _ ⟨a, B, sI, pins, σ2, H2, cls, d, rfl, J, nb, (up.trans up3).trans up4, .inr (.inr (by rw [st]; exact hh4)), na, os, ag, wish2⟩)
        first
          | exact wpAny_bind (wpAny_pure (wpAny_bind last))
          | exact wpAny_bind last
      | @cons x c ts first suite np hp more l2 hc hsu r ih =>
        intro wish2
        obtain ⟨b, hb1, yes, no⟩ := wish2
        refine wpAny_handleBy_cons (codeAny_handlers_test ?_) (by intro q; cases q)
        have ty : PySem.W.Looks (model X.prog X.w) h3 (typeOf (.ref a)) cls := fun A Q E s k q => wpAny_typeOf_ref (k _ _ he3) (by rw [hz3.1]; exact q)
        have LM := PySem.W.exm_one (M := model X.prog X.w) J3.kIn ty hb1
        have test : ∀ {Q : Value → Shared → Prop} {E : Value → Shared → Prop}, Q c { s2 with heap := h3 } → wpAny (model X.prog X.w) (X.A.mark (some (.ref a))) (eval (.Name x np) X.env) Q E { s2 with heap := h3 } := fun {Q E} q =>
          match hc with
          | ⟨hg, hdbg, .inl hm⟩ => ld_glob (X := X.suite a ((a, oe3) :: (X.pn ++ pins))) S3 hg hm q hdbg
          | ⟨hg, hdbg, .inr ⟨hm, hv, hnn⟩⟩ => ld_blt (X := X.suite a ((a, oe3) :: (X.pn ++ pins))) S3 hg hm hv q hnn hdbg
        refine test (LM.here ?_)
        cases b with
        | false =>
          show wpAny _ X.A (handleBy (.ref a) X.env more) _ _ _
          exact ih (no rfl)
        | true =>
          refine codeAny_handlers_suite_as ?_
          refine HandSPX.lands_againZ fl3 fun h4 fl4 up4 => ?_
          have J4 : Inv X pins σ2 H2 { s2 with heap := h4 } := J.landed nb fl4.1 ((up.trans up3).trans up4) os ag
          obtain ⟨oe4, vs4, he4, hz4, hd4⟩ := fl4.there
          refine store_ok (X := X.suite a ((a, oe4) :: (X.pn ++ pins))) (v := .ref a) (J4.suite he4 hd4 na nL nF) nd hi (.inl lo) rfl (fun s5 S5 => ?_) (.inr lo)
          refine wpAny_mono ((hsu a oe4 cls d (X.pn ++ pins) hz4 ⟨_, hd4⟩).run [] s5 _ H2 _ S5 (yes rfl a na)) (fun f s6 hf => ?_) (fun _ _ z => z.elim)
          have fin : ∀ {σ6 : St} {H6 : Hp} {Q : Shared → Prop}, Inv (X.suite a ((a, oe4) :: (X.pn ++ pins))) [] σ6 H6 s6 → (∀ s7, Inv X pins (σ6.set i none) H6 s7 → Q s7) →
              wpAny (model X.prog X.w) X.A (do bindName X.env n .none; unbindBehindTheSuite X.env n hp) (fun _ s7 => Q s7) X.xe s6 := fun S6 hq => gone_ok (S6.unsuite ok) nd hi lo hq
          match f, hf with
          | .next, ⟨σ6, H6, S6, q6⟩ => exact fin S6 fun s7 J7 => ⟨_, _, J7, q6⟩
          | .brk, ⟨σ6, H6, S6, q6⟩ => exact fin S6 fun s7 J7 => ⟨_, _, J7, q6⟩
          | .cont, ⟨σ6, H6, S6, q6⟩ => exact fin S6 fun s7 J7 => ⟨_, _, J7, q6⟩
          | .ret u, ⟨v6, σ6, H6, S6, r6, q6⟩ => exact fin S6 fun s7 J7 => ⟨_, _, _, J7, r6, q6⟩
    exact go hh wish
  · have z := SP.untry ok hf
    cases f with
    | next => exact wpAny_execs_nil z
    | brk => exact z
    | cont => exact z
    | ret u => exact z
end
/-- what a class says, so that isinstance asks its instances rightly -/
structure AskC (K : PySem.W.Frag) (C : Addr) : Prop where
  cl : (PySem.W.clsIn K C).isSome = true
  ga : PySem.W.findIn K (.ref C) "__getattribute__" = some (some (.builtin "BaseException.__getattribute__"))
  gg : PySem.W.findIn K (.ref C) "__getattr__" = some none
  exC : PySem.W.subIn K (.ref C) (.type "BaseException") = some true
  cls : PySem.W.findIn K (.ref C) "__class__" = some (some (.builtin "object.__class__"))
  get : PySem.W.specialIn K (.builtin "object.__class__") "__get__" = some (some (.builtin "getset_descriptor.__get__"))
  tak : PySem.W.takesIn K (.builtin "object.__class__") = some true
  obj : PySem.W.mroIn K C (.type "object") = some true
/-- isinstance(e, c), e the error at a of the class cls -/
def rErrIs (K : PySem.W.Frag) (cls : Value) (a : Addr) (d : Option Addr) : List V → Hp → VK → Prop := fun xs H Q => ∃ (C : Addr) (c : V) (cv : Value) (b : Bool), cls = .ref C ∧ AskC K C ∧ xs = [.ref a, c] ∧ ClsV c cv ∧ (∀ dd, d = some dd → ∃ fs, H dd = some (.xd fs)) ∧ PySem.W.kitOne K cls cv = some b ∧ Q (.bl b) H
/-- isinstance(e, (c, ..)) -/
def rErrIsT (K : PySem.W.Frag) (cls : Value) (a : Addr) (d : Option Addr) : List V → Hp → VK → Prop := fun xs H Q => ∃ (C tp : Addr) (cs : List V) (us : List Value) (b : Bool), cls = .ref C ∧ AskC K C ∧ xs = [.ref a, .ref tp] ∧ H tp = some (.tup cs) ∧ Paired ClsV cs us ∧ (∀ dd, d = some dd → ∃ fs, H dd = some (.xd fs)) ∧ PySem.W.kitAny K cls us = some b ∧ Q (.bl b) H
section
variable {X : Cx} {a C : Addr} {cls : Value} {oe : Obj} {d : Option Addr} {pn : List (Addr × Obj)}
theorem err_inst {pins : List (Addr × Obj)} {σ : St} {H : Hp} {s : Shared} (I : Inv (X.suite a ((a, oe) :: pn)) pins σ H s) (hz : Zc (.ref C) d oe) (hf : ∃ vs, oe.data = .fields vs) (hd : ∀ dd, d = some dd → ∃ fs, H dd = some (.xd fs)) : ∃ od, PySem.W.InstAt s.heap a oe C od := by
  obtain ⟨hget, _⟩ := I.pin (a, oe) (List.mem_append_left _ List.mem_cons_self)
  obtain ⟨vs, hv⟩ := hf
  have nc : PySem.W.notCls oe = true := by unfold PySem.W.notCls; rw [hv] <;> rfl
  cases d with
  | none => exact ⟨none, hget, hz.1, nc, by rw [hz.2]; trivial⟩
  | some dd =>
    obtain ⟨fs, e⟩ := hd dd rfl
    obtain ⟨mA, ⟨o, _, _, ho, _⟩, _⟩ := (show ObjOk X.prog X.w H s.heap dd (.xd fs) from I.hok dd _ e)
    exact ⟨some o, hget, hz.1, nc, by rw [hz.2]; exact ho⟩
theorem call_errIs (hz : Zc cls d oe) (hf : ∃ vs, oe.data = .fields vs) : CallR (X.suite a ((a, oe) :: pn)) (.builtin "isinstance") (rErrIs X.K cls a d) := by
  intro pins s σ H xs us Q I r h
  obtain ⟨C, c, cv, b, rfl, T, rfl, hc, hd, e, q⟩ := h
  obtain ⟨u1, u2, rfl, r1, r2⟩ := vals2 r
  cases (show u1 = Value.ref a from r1)
  cases hc.eq r2
  obtain ⟨od, J⟩ := err_inst I hz hf hd
  exact PySem.W.kia_one (PySem.W.kitx_exc T.cl T.ga T.gg T.exC T.cls T.get T.tak T.obj) I.kIn J e (fun z => nomatch z) fun tk => ⟨.bl b, H, I.tok tk, rfl, q⟩
theorem call_errIsT (hz : Zc cls d oe) (hf : ∃ vs, oe.data = .fields vs) : CallR (X.suite a ((a, oe) :: pn)) (.builtin "isinstance") (rErrIsT X.K cls a d) := by
  intro pins s σ H xs us Q I r h
  obtain ⟨C, tp, cs, ws, b, rfl, T, rfl, hT, k, hd, e, q⟩ := h
  obtain ⟨u1, u2, rfl, r1, r2⟩ := vals2 r
  cases (show u1 = Value.ref a from r1)
  cases (show u2 = Value.ref tp from r2)
  obtain ⟨od, J⟩ := err_inst I hz hf hd
  obtain ⟨_, its, rv, o, h1, h2, m, h3⟩ := (show ObjOk X.prog X.w H s.heap tp (.tup cs) from I.hok tp _ hT)
  cases ClsV.all k rv
  obtain ⟨oc, od2, dt, sl⟩ := o
  simp only at h2 h3
  subst h2 h3
  exact PySem.W.kia_tup (PySem.W.kitx_exc T.cl T.ga T.gg T.exC T.cls T.get T.tak T.obj) I.kIn J h1 e (fun z => nomatch z) fun tk => ⟨.bl b, H, I.tok tk, rfl, q⟩
end
end L2

set_option Elab.async false
set_option linter.all false
set_option maxRecDepth 100000
set_option maxHeartbeats 4000000
/-! Dicts whose keys are tuples of any depth (nested keys), for the hand layer. Speaks of no program. -/
namespace K1D
open PySem PySem.Spec PyProof.Rows L2

/-! ### keys that stand -/
mutual
inductive KeyV (K : PySem.W.Frag) (H : Hp) : NestedKey → V → Prop
  | non : KeyV K H .none .non
  | int (i : Int) : KeyV K H (.num i) (.int i)
  | str (x : Str) : KeyV K H (.text x) (.str x)
  | tup {a : Addr} {xs : List V} {ks : List NestedKey} : H a = some (.tup xs) → KeyVs K H ks xs → KeyV K H (.tup ks) (.ref a)
  | frz {a : Addr} {o : Obj} {xs : List V} {ks : List NestedKey} : H a = some (.frz o (.tup xs)) → (∀ k ∈ ks, ∃ l, k = .tup l) → KeyVs K H ks xs → KeyV K H (.tup ks) (.ref a)
inductive KeyVs (K : PySem.W.Frag) (H : Hp) : List NestedKey → List V → Prop
  | nil : KeyVs K H [] []
  | cons {k : NestedKey} {v : V} {ks : List NestedKey} {vs : List V} : KeyV K H k v → KeyVs K H ks vs → KeyVs K H (k :: ks) (v :: vs)
end
section
variable {K : PySem.W.Frag} {H H' : Hp}
/-- what stands in both: tuples -/
structure Tups (K : PySem.W.Frag) (H H' : Hp) : Prop where
  t : ∀ a xs, H a = some (.tup xs) → H' a = some (.tup xs)
  f : ∀ a o xs, H a = some (.frz o (.tup xs)) → H' a = some (.frz o (.tup xs))
instance : CoeFun (Tups K H H') fun _ => ∀ a xs, H a = some (.tup xs) → H' a = some (.tup xs) := ⟨Tups.t⟩
mutual
theorem KeyV.up (t : Tups K H H') : ∀ (k : NestedKey) (v : V), KeyV K H k v → KeyV K H' k v
  | .none, _, h => by cases h; exact .non
  | .num i, _, h => by cases h; exact .int i
  | .text x, _, h => by cases h; exact .str x
  | .tup ks, _, h => by
    cases h with
    | tup h1 h2 => exact .tup (t.t _ _ h1) (KeyVs.up t ks _ h2)
    | frz h1 h3 h2 => exact .frz (t.f _ _ _ h1) h3 (KeyVs.up t ks _ h2)
theorem KeyVs.up (t : Tups K H H') : ∀ (ks : List NestedKey) (vs : List V), KeyVs K H ks vs → KeyVs K H' ks vs
  | [], _, h => by cases h; exact .nil
  | k :: ks, _, h => by
    cases h with
    | cons h1 h2 => exact .cons (KeyV.up t k _ h1) (KeyVs.up t ks _ h2)
end
mutual
/-- .. is data -/
theorem KeyV.dp : ∀ (k : NestedKey) (v : V), KeyV K H k v → Dp K H v k.data
  | .none, _, h => by cases h; exact .non
  | .num i, _, h => by cases h; exact .int i
  | .text x, _, h => by cases h; exact .str x
  | .tup ks, _, h => by
    cases h with
    | tup h1 h2 => exact .tup (SqT.of h1) (KeyVs.dp ks _ h2)
    | frz h1 _ h2 => exact .tup (.inl (.inr ⟨_, h1⟩)) (KeyVs.dp ks _ h2)
theorem KeyVs.dp : ∀ (ks : List NestedKey) (vs : List V), KeyVs K H ks vs → DpAll K H vs (NestedKey.datas ks)
  | [], _, h => by cases h; exact .nil
  | k :: ks, _, h => by
    cases h with
    | cons h1 h2 => exact .cons (KeyV.dp k _ h1) (KeyVs.dp ks _ h2)
end
end
section
variable {X : Cx} {pins : List (Addr × Obj)} {σ : L2.St} {H : Hp} {s : Shared}
mutual
theorem KeyV.is (I : Inv X pins σ H s) : ∀ (k : NestedKey) (v : V) (u : Value), KeyV X.K H k v → RelV v u → NestedIs s.heap k u
  | .none, _, _, h, r => by cases h; cases r; exact .none
  | .num i, _, _, h, r => by
    cases h
    obtain ⟨t, rfl⟩ := r
    exact .int i t
  | .text x, _, _, h, r => by
    cases h
    obtain ⟨t, rfl⟩ := r
    exact .text x t
  | .tup ks, _, _, h, r => by
    cases h with
    | tup h1 h2 =>
      cases r
      obtain ⟨its, rv, ⟨o, ho, hc, n, hd⟩, _⟩ := I.tuple (SqT.of h1)
      exact .tup ho hc hd (KeyVs.is I ks _ _ h2 rv)
    | frz h1 _ h2 =>
      cases r
      obtain ⟨its, rv, ⟨o, ho, hc, n, hd⟩, _⟩ := I.tuple (.inl (.inr ⟨_, h1⟩))
      exact .tup ho hc hd (KeyVs.is I ks _ _ h2 rv)
theorem KeyVs.is (I : Inv X pins σ H s) : ∀ (ks : List NestedKey) (vs : List V) (us : List Value), KeyVs X.K H ks vs → Vals vs us → NestedAll s.heap ks us
  | [], _, _, h, r => by cases h; cases r; exact .nil
  | k :: ks, _, _, h, r => by
    cases h with
    | cons h1 h2 =>
      cases r with
      | cons r1 r2 => exact .cons (KeyV.is I k _ _ h1 r1) (KeyVs.is I ks _ _ h2 r2)
end
end

/-! ### the dict -/
/-- an entry: its key, where the key stands, its value -/
abbrev NE := NestedKey × Addr × V
abbrev NR : List NE → List (NestedKey × Addr × Value) → Prop := Paired fun (p : NE) q => p.1 = q.1 ∧ p.2.1 = q.2.1 ∧ RelV p.2.2 q.2.2
def entN (w : World) (x : NestedKey × Addr × Value) : DictEntry := ⟨x.1.hash w, .ref x.2.1, x.2.2⟩
def NIn (w : World) (d : Addr) (kvs : List NE) (h : Heap) : Prop :=
  kvs.length ≤ sizeLine ∧ (d == sysModules) = false ∧ ∃ xs : List (NestedKey × Addr × Value), NR kvs xs ∧ ∃ o es ep, h.get? d = some o ∧ o.ExactDict ∧ o.data = .dict es ep ∧ es.toList = xs.map (entN w) ∧ (xs.map (·.1)).Nodup
def dN (w : World) (d : Addr) (kvs : List NE) : HO := .ext (NIn w d kvs)
/-- all its keys stand -/
def KeysN (K : PySem.W.Frag) (H : Hp) (kvs : List NE) : Prop := ∀ x ∈ kvs, KeyV K H x.1 (.ref x.2.1) ∧ x.1.depth ≤ 8
theorem KeysN.up {K : PySem.W.Frag} {H H' : Hp} {kvs : List NE} (k : KeysN K H kvs) (t : Tups K H H') : KeysN K H' kvs := fun x hx => ⟨(k x hx).1.up t _ _, (k x hx).2⟩
theorem Tups.ext {K : PySem.W.Frag} {H H' : Hp} (e : ∀ a o, H a = some o → H' a = some o) : Tups K H H' := ⟨fun a xs h => e _ _ h, fun a o xs h => e _ _ h⟩
/-- an object that is no tuple is changed, or a new one laid -/
theorem Tups.put {K : PySem.W.Frag} {H : Hp} {a : Addr} {o : HO} (h : ∀ xs, ¬ Rd H a (.tup xs)) : Tups K H (upd H a o) := ⟨fun b xs q => (upd_ne (fun z => h xs (.inl (by rw [← z]; exact q)))).trans q, fun b o' xs q => (upd_ne (fun z => h xs (.inr ⟨o', by rw [← z]; exact q⟩))).trans q⟩
theorem Tups.refl {K : PySem.W.Frag} {H : Hp} : Tups K H H := ⟨fun _ _ h => h, fun _ _ _ h => h⟩
theorem Tups.trans {K : PySem.W.Frag} {H H1 H2 : Hp} (a : Tups K H H1) (b : Tups K H1 H2) : Tups K H H2 := ⟨fun p xs h => b.t p xs (a.t p xs h), fun p o xs h => b.f p o xs (a.f p o xs h)⟩
theorem rds {H G : Hp} (s : ∀ a o, H a = some o → G a = some o) {a : Addr} {u : HO} (h : Rd H a u) : Rd G a u := h.imp (s _ _) fun ⟨o, q⟩ => ⟨o, s _ _ q⟩
theorem not_tup_dN {H : Hp} {w : World} {d : Addr} {kvs : List NE} (h : H d = some (dN w d kvs)) : ∀ xs, ¬ Rd H d (.tup xs) := fun xs q => by
  rcases q with q | ⟨o, q⟩
  · rw [h] at q; cases q
  · rw [h] at q; cases q
theorem not_tup_none {H : Hp} {d : Addr} (h : H d = none) : ∀ xs, ¬ Rd H d (.tup xs) := fun xs q => by
  rcases q with q | ⟨o, q⟩
  · rw [h] at q; cases q
  · rw [h] at q; cases q

/-- the value at k -/
def valN (kvs : List NE) (k : NestedKey) : Option V := (kvs.find? fun x => decide (x.1 = k)).map (·.2.2)
/-- k's value made v; a new key at the end, standing at b -/
def putN (kvs : List NE) (k : NestedKey) (b : Addr) (v : V) : List NE :=
  if (valN kvs k).isSome then kvs.map fun x => if x.1 = k then (x.1, x.2.1, v) else x else kvs ++ [(k, b, v)]
def dropN (kvs : List NE) (k : NestedKey) : List NE := kvs.filter fun x => decide (x.1 ≠ k)
section
variable {w : World} {K : PySem.W.Frag} {H : Hp}
theorem NR.val {kvs : List NE} {xs : List (NestedKey × Addr × Value)} (r : NR kvs xs) (k : NestedKey) : RelO (valN kvs k) ((atKey xs k).map (·.2)) := by
  induction r with
  | nil => exact True.intro
  | @cons p q ps qs h t ih =>
    obtain ⟨h1, _, h2⟩ := h
    by_cases e : p.1 = k
    · have e' : q.1 = k := h1.symm.trans e
      have b : atKey (q :: qs) k = some q.2 := by simp [atKey, List.find?_cons, e']
      have c : valN (p :: ps) k = some p.2.2 := by simp [valN, List.find?_cons, e]
      rw [b, c]; exact h2
    · have e' : ¬ q.1 = k := fun z => e (h1.trans z)
      have b : atKey (q :: qs) k = atKey qs k := by simp [atKey, List.find?_cons, e']
      have c : valN (p :: ps) k = valN ps k := by simp [valN, List.find?_cons, e]
      rw [b, c]; exact ih
theorem NR.repl {kvs : List NE} {xs : List (NestedKey × Addr × Value)} (r : NR kvs xs) (k : NestedKey) {y : V} {u : Value} (ry : RelV y u) :
    NR (kvs.map fun x => if x.1 = k then (x.1, x.2.1, y) else x) (xs.map (putAt k u)) := by
  induction r with
  | nil => exact .nil
  | @cons p q ps qs h t ih =>
    rw [List.map_cons, List.map_cons]
    refine .cons ?_ ih
    obtain ⟨h1, h2, h3⟩ := h
    unfold putAt
    by_cases e : p.1 = k
    · rw [if_pos e, if_pos (h1.symm.trans e)]; exact ⟨h1, h2, ry⟩
    · rw [if_neg e, if_neg (fun z => e (h1.trans z))]; exact ⟨h1, h2, h3⟩
theorem NR.put {kvs : List NE} {xs : List (NestedKey × Addr × Value)} (r : NR kvs xs) (k : NestedKey) {b : Addr} {y : V} {u : Value} (ry : RelV y u) :
    NR (putN kvs k b y) (storedH xs k b u) := by
  have e : (valN kvs k).isSome = (atKey xs k).isSome := by
    rw [(r.val k).isSome_eq, Option.isSome_map]
  unfold putN storedH
  rw [e]
  by_cases q : (atKey xs k).isSome = true
  · rw [if_pos q, if_pos q]; exact r.repl k ry
  · rw [if_neg q, if_neg q]; exact Paired.snoc r ⟨rfl, rfl, ry⟩
theorem NR.drop {kvs : List NE} {xs : List (NestedKey × Addr × Value)} (r : NR kvs xs) (k : NestedKey) : NR (dropN kvs k) (withoutH xs k) := by
  induction r with
  | nil => exact .nil
  | @cons p q ps qs h t ih =>
    unfold dropN withoutH
    rw [List.filter_cons, List.filter_cons]
    by_cases e : p.1 = k
    · rw [if_neg (by simp [e]), if_neg (by simp [← h.1, e])]; exact ih
    · rw [if_pos (by simp [e]), if_pos (by simp [← h.1, e])]; exact .cons h ih
theorem length_putN (kvs : List NE) (k : NestedKey) (b : Addr) (v : V) : (putN kvs k b v).length ≤ kvs.length + 1 := by
  unfold putN
  split
  · rw [List.length_map]; omega
  · rw [List.length_append]; exact Nat.le_refl _
theorem length_dropN (kvs : List NE) (k : NestedKey) : (dropN kvs k).length ≤ kvs.length := List.length_filter_le _ _
theorem KeysN.put {kvs : List NE} {k : NestedKey} {b : Addr} {v : V} (h : KeysN K H kvs) (hk : KeyV K H k (.ref b)) (hd : k.depth ≤ 8) : KeysN K H (putN kvs k b v) := fun x hx => by
  unfold putN at hx
  split at hx
  · obtain ⟨y, hy, e⟩ := List.mem_map.mp hx
    split at e
    · subst e; exact h y hy
    · subst e; exact h y hy
  · rcases List.mem_append.mp hx with hx | hx
    · exact h x hx
    · rw [List.mem_singleton] at hx
      subst hx
      exact ⟨hk, hd⟩
theorem KeysN.drop {kvs : List NE} {k : NestedKey} (h : KeysN K H kvs) : KeysN K H (dropN kvs k) := fun x hx => h x (List.mem_filter.mp hx).1
end

section
variable {X : Cx} {pins : List (Addr × Obj)} {σ : L2.St} {H : Hp} {s : Shared} {d : Addr} {kvs : List NE}
theorem dn_ok {P : Program} {w : World} {H : Hp} {h : Heap} {d : Addr} {kvs : List NE} (x : NIn w d kvs h) : ObjOk P w H h d (dN w d kvs) :=
  ⟨x, let ⟨_, _, _, _, o, _, _, ho, _⟩ := x; ⟨o, ho⟩, fun h1 h2 x k => let ⟨z, y, xs, r, o, es, ep, ho, q⟩ := x; ⟨z, y, xs, r, o, es, ep, k o ho, q⟩⟩
/-- in the heap itself -/
theorem dn_rd (I : Inv X pins σ H s) (e : Rd H d (dN X.w d kvs)) (ks : KeysN X.K H kvs) : kvs.length ≤ sizeLine ∧ (d == sysModules) = false ∧
    ∃ xs, NR kvs xs ∧ s.heap.DictOfH (nestedKind X.prog X.w) d xs := by
  obtain ⟨⟨z, y, xs, r, o, es, ep, h1, h2, h3, h4, h5⟩, _, _⟩ := (show ObjOk X.prog X.w H s.heap d (dN X.w d kvs) from rd_of I.hok e)
  refine ⟨z, y, xs, r, o, es, ep, h1, h2, h3, h4, fun x hx => ?_, h5⟩
  have all : ∀ {l : List NE} {m : List (NestedKey × Addr × Value)}, NR l m → KeysN X.K H l → ∀ x ∈ m, (nestedKind X.prog X.w).is s.heap x.1 x.2.1 := by
    intro l m q
    induction q with
    | nil => intro _ x hx; exact nomatch hx
    | @cons p q ps qs hq t ih =>
      intro hl x hx
      rcases List.mem_cons.mp hx with e | hx
      · subst e
        obtain ⟨a, b⟩ := hl p (List.mem_cons_self ..)
        refine ⟨?_, by rw [← hq.1]; exact b⟩
        rw [← hq.1, ← hq.2.1]
        exact a.is I _ _ _ rfl
      · exact ih (fun y hy => hl y (List.mem_cons_of_mem _ hy)) x hx
  exact all r ks x hx
theorem NIn.of {P : Program} {w : World} {h : Heap} {d : Addr} {kvs : List NE} {xs : List (NestedKey × Addr × Value)} (z : kvs.length ≤ sizeLine) (y : (d == sysModules) = false) (r : NR kvs xs) (dd : h.DictOfH (nestedKind P w) d xs) : NIn w d kvs h := by
  obtain ⟨o, es, ep, h1, h2, h3, h4, _, h5⟩ := dd
  exact ⟨z, y, xs, r, o, es, ep, h1, h2, h3, h4, h5⟩
end

/-! ### what is done with it -/
section
variable {X : Cx} {pins : List (Addr × Obj)} {σ : L2.St} {H : Hp} {s : Shared} {a b : Addr} {kvs : List NE} {k : NestedKey} {v : V} {r : Value} {A : Around} {E : Value → Shared → Prop}
theorem nis (I : Inv X pins σ H s) (hk : KeyV X.K H k (.ref b)) (hd : k.depth ≤ 8) : (nestedKind X.prog X.w).is s.heap k b := ⟨hk.is I _ _ _ rfl, hd⟩
theorem nroom {P : Program} {w : World} (hu : A.units + 9 < cLine) : (nestedKind P w).room A.in1 := show A.in1.units + 8 < cLine by rw [Around.in1_units]; omega
theorem nroom0 {P : Program} {w : World} (hu : A.units + 8 < cLine) : (nestedKind P w).room A := hu
theorem n_getItem {Q : Value → Shared → Prop} (hu : A.units + 9 < cLine) (I : Inv X pins σ H s) (e : Rd H a (dN X.w a kvs)) (ks : KeysN X.K H kvs) (hk : KeyV X.K H k (.ref b)) (hd : k.depth ≤ 8) (hv : valN kvs k = some v)
    (h : ∀ w' s', Inv X pins σ H s' → RelV v w' → Q w' s') : wpAny (model X.prog X.w) A (getItem (.ref a) (.ref b)) Q E s := by
  obtain ⟨z, hs, xs, rel, dd⟩ := dn_rd I e ks
  obtain ⟨w', hw, rw'⟩ := RelO.some_of (v := v) (o := (atKey xs k).map (·.2)) (by rw [← hv]; exact rel.val k)
  obtain ⟨p, hp, hp2⟩ := Option.map_eq_some_iff.mp hw
  refine wpAny_getItem_heap (knd := nestedKind X.prog X.w) (nroom hu) (nis I hk hd) dd hp ?_
  rw [hp2]
  exact h w' _ (I.tok _) rw'
theorem n_setItem {Q : Unit → Shared → Prop} (hu : A.units + 9 < cLine) (I : Inv X pins σ H s) (e : H a = some (dN X.w a kvs)) (ks : KeysN X.K H kvs) (hl : kvs.length < sizeLine) (hk : KeyV X.K H k (.ref b)) (hd : k.depth ≤ 8) (rv : RelV v r)
    (h : ∀ s', Inv X pins σ (upd H a (dN X.w a (putN kvs k b v))) s' → Q () s') : wpAny (model X.prog X.w) A (setItem (.ref a) (.ref b) r) Q E s := by
  obtain ⟨z, hs, xs, rel, dd⟩ := dn_rd I (.inl e) ks
  have hz : xs.length ≤ sizeLine := by rw [← Paired.length rel]; exact z
  refine wpAny_setItem_heap (knd := nestedKind X.prog X.w) (hsz := hz) (nroom hu) (nis I hk hd) dd fun h' dd' hs' => h _ ?_
  have he : ∃ q, h'.get? a = some q := let ⟨q, _, _, hq, _⟩ := dd'; ⟨q, hq⟩
  refine d_write I (by rw [e]; exact True.intro) hs' he (dn_ok (NIn.of ?_ hs (rel.put k rv) dd'))
  have := length_putN kvs k b v
  omega
theorem n_dictSet {Q : Unit → Shared → Prop} (hu : A.units + 8 < cLine) (I : Inv X pins σ H s) (e : H a = some (dN X.w a kvs)) (ks : KeysN X.K H kvs) (hl : kvs.length < sizeLine) (hk : KeyV X.K H k (.ref b)) (hd : k.depth ≤ 8) (rv : RelV v r)
    (h : ∀ s', Inv X pins σ (upd H a (dN X.w a (putN kvs k b v))) s' → Q () s') : wpAny (model X.prog X.w) A (dictSet a (.ref b) r) Q E s := by
  obtain ⟨z, hs, xs, rel, dd⟩ := dn_rd I (.inl e) ks
  have hz : xs.length ≤ sizeLine := by rw [← Paired.length rel]; exact z
  refine wpAny_dictSet_heap (knd := nestedKind X.prog X.w) (hsz := hz) (nroom0 hu) (nis I hk hd) dd fun h' dd' hs' => h _ ?_
  have he : ∃ q, h'.get? a = some q := let ⟨q, _, _, hq, _⟩ := dd'; ⟨q, hq⟩
  refine d_write I (by rw [e]; exact True.intro) hs' he (dn_ok (NIn.of ?_ hs (rel.put k rv) dd'))
  have := length_putN kvs k b v
  omega
theorem n_delItem {Q : Unit → Shared → Prop} (hu : A.units + 9 < cLine) (I : Inv X pins σ H s) (e : H a = some (dN X.w a kvs)) (ks : KeysN X.K H kvs) (hk : KeyV X.K H k (.ref b)) (hd : k.depth ≤ 8) (hv : (valN kvs k).isSome = true)
    (h : ∀ s', Inv X pins σ (upd H a (dN X.w a (dropN kvs k))) s' → Q () s') : wpAny (model X.prog X.w) A (delItem (.ref a) (.ref b)) Q E s := by
  obtain ⟨z, hs, xs, rel, dd⟩ := dn_rd I (.inl e) ks
  have hz : xs.length ≤ sizeLine := by rw [← Paired.length rel]; exact z
  have q := (rel.val k).isSome_eq
  rw [hv, Option.isSome_map] at q
  obtain ⟨p, hp⟩ := Option.isSome_iff_exists.mp q.symm
  refine wpAny_delItem_heap (knd := nestedKind X.prog X.w) (hsz := hz) (nroom hu) (nis I hk hd) hs dd hp fun h' dd' hs' => h _ ?_
  have he : ∃ q, h'.get? a = some q := let ⟨q, _, _, hq, _⟩ := dd'; ⟨q, hq⟩
  exact d_write I (by rw [e]; exact True.intro) hs' he (dn_ok (NIn.of (Nat.le_trans (length_dropN kvs k) z) hs (rel.drop k) dd'))
theorem n_get2 {y : V} {u : Value} {Q : Value → Shared → Prop} (hu : A.units + 9 < cLine) (I : Inv X pins σ H s) (e : Rd H a (dN X.w a kvs)) (ks : KeysN X.K H kvs) (hk : KeyV X.K H k (.ref b)) (hd : k.depth ≤ 8) (ry : RelV y u)
    (h : ∀ w' s', Inv X pins σ H s' → RelV ((valN kvs k).getD y) w' → Q w' s') : wpAny (model X.prog X.w) A (call (.builtin "dict.get") [.ref a, .ref b, u]) Q E s := by
  obtain ⟨z, hs, xs, rel, dd⟩ := dn_rd I e ks
  refine call_meetsIn PySem.F.slot_dict_get dd.typeIs PySem.F.entry_dict_get (PySem.F.args_dict_get_3 _ _ _) (meetsH_dict_get_default (nestedKind X.prog X.w) a b hs u) ⟨nroom hu, k, xs, (nis I hk hd), dd, h _ _ (I.tok _) ?_⟩
  exact (rel.val k).getD ry
end

/-! ### readings and rules -/
/-- d[y] -/
def tNGet (K : PySem.W.Frag) (w : World) (td ty : TE) : TE := fun σ H Q => td σ H fun x H1 => ty σ H1 fun y H2 => ∃ a b kvs k v, x = .ref a ∧ y = .ref b ∧ Rd H2 a (dN w a kvs) ∧ KeysN K H2 kvs ∧ KeyV K H2 k (.ref b) ∧ k.depth ≤ 8 ∧ valN kvs k = some v ∧ Q v H2
/-- d.get(y, z) -/
def tNGet2 (K : PySem.W.Frag) (w : World) (td ty tz : TE) : TE := fun σ H Q => td σ H fun x H1 => ∃ a kvs, x = .ref a ∧ Rd H1 a (dN w a kvs) ∧ KeysN K H1 kvs ∧ ty σ H1 fun y H2 => tz σ H2 fun z H3 => ∃ b k, y = .ref b ∧ Rd H3 a (dN w a kvs) ∧ KeysN K H3 kvs ∧ KeyV K H3 k (.ref b) ∧ k.depth ≤ 8 ∧ Q ((valN kvs k).getD z) H3
/-- d[y] = v -/
def sNPut (K : PySem.W.Frag) (w : World) (td ty tv : TE) : TS := fun D σ H => tv σ H fun v H1 => td σ H1 fun x H2 => ty σ H2 fun y H3 => ∃ a b kvs k, x = .ref a ∧ y = .ref b ∧ H3 a = some (dN w a kvs) ∧ KeysN K H3 kvs ∧ kvs.length < sizeLine ∧ KeyV K H3 k (.ref b) ∧ k.depth ≤ 8 ∧ D.nx σ (upd H3 a (dN w a (putN kvs k b v)))
/-- del d[y] -/
def sNDel (K : PySem.W.Frag) (w : World) (td ty : TE) : TS := fun D σ H => td σ H fun x H1 => ty σ H1 fun y H2 => ∃ a b kvs k, x = .ref a ∧ y = .ref b ∧ H2 a = some (dN w a kvs) ∧ KeysN K H2 kvs ∧ KeyV K H2 k (.ref b) ∧ k.depth ≤ 8 ∧ (valN kvs k).isSome = true ∧ D.nx σ (upd H2 a (dN w a (dropN kvs k)))
/-- {} -/
def tNNew (w : World) : TE := fun _ H Q => ∀ p, H p = none → Q (.ref p) (upd H p (dN w p []))
def rNLen (K : PySem.W.Frag) (w : World) : List V → Hp → VK → Prop := fun xs H Q => ∃ (p : Addr) (kvs : List NE), xs = [.ref p] ∧ Rd H p (dN w p kvs) ∧ KeysN K H kvs ∧ Q (.int ((kvs.length : Nat) : Int)) H
theorem dn_empty {P : Program} {w : World} {H : Hp} (h : Heap) (hb : sysModules < h.objs.size) : ObjOk P w H (h.push { cls := .type "dict", data := .dict #[] }) h.objs.size (dN w h.objs.size []) :=
  dn_ok ⟨Nat.zero_le _, beq_eq_false_iff_ne.mpr (Ne.symm (Nat.ne_of_lt hb)), [], .nil, _, #[], 0, Heap.get?_push_size _ rfl, ⟨rfl, rfl, rfl⟩, rfl, rfl, List.nodup_nil⟩
section
variable {X : Cx} {o i e f value : Expr} {pos pos' tpos apos cpos : Pos} {td ty tv tx : TE}
theorem dn_type {pins : List (Addr × Obj)} {σ : L2.St} {H : Hp} {s : Shared} {a : Addr} {kvs : List NE} (I : Inv X pins σ H s) (e : Rd H a (dN X.w a kvs)) :
    s.TypeIs (.ref a) "dict" ∧ (∀ b, Value.ref a = .ref b → ∃ ob, s.heap.get? b = some ob ∧ ob.dict = none) ∧ (a == sysModules) = false := by
  obtain ⟨⟨z, y, xs, r, ob, es, ep, h1, h2, h3, h4, h5⟩, _, _⟩ := (show ObjOk X.prog X.w H s.heap a (dN X.w a kvs) from rd_of I.hok e)
  refine ⟨⟨ob, h1, h2.1⟩, fun b q => ?_, y⟩
  cases q
  exact ⟨ob, h1, h2.2.1⟩
theorem pe_nget (hu : X.A.units + 9 < cLine) (ho : PE X o td) (hi : PE X i ty) (hs : NoSl i) : PE X (.Subscript o i pos) (tNGet X.K X.w td ty) := by
  refine ⟨fun pins s σ H Q I h => ?_⟩
  refine subD_of PySem.F.slot_dict_getitem.lookup hs (thn (ho.run pins s σ H _ I h) fun u s1 ⟨x, H1, I1, rx, q1⟩ => thn (hi.run pins s1 σ H1 _ I1 q1) fun iv s2 ⟨y, H2, I2, ry, a, b, kvs, k, v, ex, ey, g, ks, hk, hd, hv, q2⟩ => ?_)
  subst ex ey
  obtain rfl : u = Value.ref a := rx
  obtain rfl : iv = Value.ref b := ry
  exact ⟨(dn_type I2 g).1, n_getItem hu I2 g ks hk hd hv fun w' s3 I3 rw' => ⟨v, H2, I3, rw', q2⟩⟩
theorem ps_nput (hu : X.A.units + 9 < cLine) (ho : PE X o td) (hi : PE X i ty) (hv : PE X value tv) (hs : swapsWith value (some (.Subscript o i pos')) pos.line X.env = pure false) :
    PS X (.Assign [.Subscript o i pos'] value pos) (sNPut X.K X.w td ty tv) := by
  refine ⟨fun pins s σ H D I h => ?_⟩
  refine wpAny_Assign_Subscript (thn (hv.run pins s σ H _ I h) fun r s1 ⟨v, H1, I1, rv, q1⟩ => thn (ho.run pins s1 σ H1 _ I1 q1) fun u s2 ⟨x, H2, I2, rx, q2⟩ => thn (hi.run pins s2 σ H2 _ I2 q2) fun iv s3 ⟨y, H3, I3, ry, a, b, kvs, k, ex, ey, g, ks, hl, hk, hd, q3⟩ => ?_) hs
  subst ex ey
  obtain rfl : u = Value.ref a := rx
  obtain rfl : iv = Value.ref b := ry
  exact n_setItem hu I3 g ks hl hk hd rv fun s4 I4 => ⟨σ, _, I4, q3⟩
theorem ps_ndel (hu : X.A.units + 9 < cLine) (ho : PE X o td) (hi : PE X i ty) : PS X (.Delete [.Subscript o i tpos] pos) (sNDel X.K X.w td ty) := by
  refine ⟨fun pins s σ H D I h => ?_⟩
  refine wpAny_Delete (wpAny_deleteEach_cons (wpAny_delete_Subscript (thn (ho.run pins s σ H _ I h) fun u s1 ⟨x, H1, I1, rx, q1⟩ => thn (hi.run pins s1 σ H1 _ I1 q1) fun iv s2 ⟨y, H2, I2, ry, a, b, kvs, k, ex, ey, g, ks, hk, hd, hv, q2⟩ => ?_)))
  subst ex ey
  obtain rfl : u = Value.ref a := rx
  obtain rfl : iv = Value.ref b := ry
  exact n_delItem hu I2 g ks hk hd hv fun s3 I3 => wpAny_deleteEach_nil ⟨σ, _, I3, q2⟩
theorem pe_nget2 (hu : X.A.units + 9 < cLine) (ho : PE X o td) (he : PE X e ty) (hf : PE X f tx) (m : M2 X o "get" apos e f cpos) : PE X (.Call (.Attribute o "get" apos) [e, f] [] cpos) (tNGet2 X.K X.w td ty tx) := by
  refine ⟨fun pins s σ H Q I h => ?_⟩
  refine wpAny_Call_method m.base m.few m.line PySem.F.plainAttrs_dict PySem.F.slot_dict_get PySem.F.type_dict_get (thn (ho.run pins s σ H _ I h) fun u s1 ⟨x, H1, I1, rx, a, kvs, ex, d, ks, q1⟩ => ?_)
  subst ex
  obtain rfl : u = Value.ref a := rx
  obtain ⟨t1, t2, _⟩ := dn_type I1 d
  refine ⟨t1, t2, ?_⟩
  rw [m.trees]
  refine Calls.callWith_builtin rfl (Calls.evalArgs_plain (Calls.spliced_cons (thn (he.run pins s1 σ H1 _ I1 q1) fun iv s2 ⟨y, H2, I2, ry, q2⟩ =>
    Calls.spliced_cons (thn (hf.run pins s2 σ H2 _ I2 q2) fun fv s3 ⟨z, H3, I3, rz, b, k, ey, g, ks3, hk, hd, q3⟩ => Calls.spliced_nil ?_))))
  subst ey
  obtain rfl : iv = Value.ref b := ry
  exact n_get2 hu I3 g ks3 hk hd rz fun w' s4 I4 rw' => ⟨_, H3, I4, rw', q3⟩
theorem pe_nnew : PE X (.Dict [] [] pos) (tNNew X.w) := ⟨fun pins s σ H Q I h =>
  wpAny_Dict_empty ⟨.ref s.heap.objs.size, _, I.laid (a := s.heap.objs.size) (o := dN X.w s.heap.objs.size []) (t' := s.toks) (fun _ _ q => Heap.get?_push_of_some _ q) (Nat.le_refl _) (dn_empty s.heap I.big), rfl, h _ (I.hok.fresh (Nat.le_refl _))⟩⟩
theorem call_len_dn : CallR X (.builtin "len") (rNLen X.K X.w) := by
  intro pins s σ H xs us Q I r h
  obtain ⟨p, kvs, rfl, hp, ks, q⟩ := h
  obtain ⟨u, rfl, rx⟩ := vals1 r
  obtain rfl : u = .ref p := rx
  obtain ⟨z, hd, ys, rel, dd⟩ := dn_rd I hp ks
  have hl : kvs.length = ys.length := Paired.length rel
  refine call_len_dictH hd dd (by rw [← hl]; rw [sizeLine_eq] at z; omega) ?_
  rw [← hl]
  exact ⟨.int ((kvs.length : Nat) : Int), H, I.tok _, ⟨_, rfl⟩, q⟩
end
end K1D

set_option Elab.async false
set_option linter.all false
set_option maxRecDepth 100000
set_option maxHeartbeats 4000000
/-! Walks over a dict of nested keys: for k in d, d.values(), d.items(). Speaks of no program. -/
namespace K1D
open PySem PySem.Spec PyProof.Rows L2
theorem nr_get {kvs : List NE} {xs : List (NestedKey × Addr × Value)} (h : NR kvs xs) {i : Nat} {x : NE} (e : kvs[i]? = some x) : ∃ u, xs[i]? = some (x.1, x.2.1, u) ∧ RelV x.2.2 u := by
  obtain ⟨b, hb, h1, h2, h3⟩ := paired_get h e
  exact ⟨b.2.2, by rw [hb, h1, h2], h3⟩
section
variable {X : Cx} {pins : List (Addr × Obj)} {σ : L2.St} {H : Hp} {s : Shared} {d : Addr} {o : Obj} {kvs : List NE}
/-- what is known of a locked one -/
theorem Inv.frzN (I : Inv X pins σ H s) (h : H d = some (.frz o (dN X.w d kvs))) :
    (d == sysModules) = false ∧ kvs.length ≤ sizeLine ∧ ∃ (es : Array DictEntry) (ep : Nat), o.data = .dict es ep ∧ s.heap.DictRaw d es ep ∧ es.size = kvs.length ∧
      ∀ (i : Nat) (x : NE) (hi : i < es.size), kvs[i]? = some x → es[i].key = .ref x.2.1 ∧ RelV x.2.2 es[i].val := by
  obtain ⟨hd, ⟨z, hs, xs, r, o', es, ep, ho, hx, hdt, he, _⟩, _⟩ := I.hok d _ h
  rw [hd] at ho
  cases ho
  refine ⟨hs, z, es, ep, hdt, ⟨o, hd, hx, hdt⟩, ?_, fun i x hi e => ?_⟩
  · have l1 : es.toList.length = xs.length := by rw [he, List.length_map]
    have l2 : kvs.length = xs.length := Paired.length r
    rw [Array.length_toList] at l1
    omega
  · obtain ⟨u, hu, ru⟩ := nr_get r e
    have q : es.toList[i]? = some (entN X.w (x.1, x.2.1, u)) := by rw [he, List.getElem?_map, hu]; rfl
    have q2 : es[i] = entN X.w (x.1, x.2.1, u) := by
      rw [List.getElem?_eq_getElem (by simpa using hi)] at q
      simpa using q
    rw [q2]
    exact ⟨rfl, ru⟩
end
/-- the keys of the locked dict at d, in their order: where they stand -/
def Itnk (w : World) (d : Addr) (o : Obj) (kvs : List NE) : It :=
  ⟨fun i H => H d = some (.frz o (dN w d kvs)) ∧ i < kvs.length, fun i H x H' => H' = H ∧ ∃ e, kvs[i]? = some e ∧ x = .ref e.2.1, fun i H => H d = some (.frz o (dN w d kvs)) ∧ kvs.length ≤ i⟩
/-- the values -/
def Itnv (w : World) (d : Addr) (o : Obj) (kvs : List NE) : It :=
  ⟨fun i H => H d = some (.frz o (dN w d kvs)) ∧ i < kvs.length, fun i H x H' => H' = H ∧ ∃ e, kvs[i]? = some e ∧ x = e.2.2, fun i H => H d = some (.frz o (dN w d kvs)) ∧ kvs.length ≤ i⟩
/-- the pairs, each a new tuple -/
def Itni (w : World) (d : Addr) (o : Obj) (kvs : List NE) : It :=
  ⟨fun i H => H d = some (.frz o (dN w d kvs)) ∧ i < kvs.length, fun i H x H' => ∃ T e, kvs[i]? = some e ∧ x = .ref T ∧ H T = none ∧ H' = upd H T (.tup [.ref e.2.1, e.2.2]), fun i H => H d = some (.frz o (dN w d kvs)) ∧ kvs.length ≤ i⟩
section
variable {P : Program} {w : World} {K : PySem.W.Frag} {tg : Expr} {d : Addr} {o : Obj} {es : Array DictEntry} {ep : Nat}
theorem turn_nkeys {kvs : List NE} (it : Addr) (hod : o.data = .dict es ep) (hsz : es.size = kvs.length) : Turn P w K tg (Itnk w d o kvs) [it] it (fun i h => h.IsKeyIter it d i es.size ep) where
  mem := by simp
  obj := fun i h st b hb => by
    have e : b = it := by simpa using hb
    subst e
    obtain ⟨oi, e, c, dd⟩ := st
    exact ⟨oi, e, fun v z => by rw [dd] at z; cases z⟩
  keep := fun i h h' st k => st.at fun oi e => k it (by simp) oi e
  item := by
    intro X hP hw hK hc i pins s σ H E I hf st hg
    subst hP hw hK
    obtain ⟨hd, hi⟩ := hg
    obtain ⟨f0, f1, f2, f3, f4, f5⟩ := hf it (by simp)
    obtain ⟨hs, hz, es', ep', hdt, raw, _, ent⟩ := Inv.frzN I hd
    obtain ⟨rfl, rfl⟩ := dict_ep hod hdt
    have hkv : kvs[i]? = some kvs[i] := List.getElem?_eq_getElem hi
    have hlt : i < es'.size := by rw [hsz]; exact hi
    obtain ⟨hkey, _⟩ := ent i _ hlt hkv
    refine wpAny_pyNext_keys_item_raw st raw hlt fun h' st' sb => ?_
    have I1 : Inv X pins σ H { s with heap := h' } := I.turned (t' := s.toks) (fun b ob hb e => (sb.2 b hb).trans e) f0 f1 f3 f4 f5
    obtain ⟨oi, e, c, dd⟩ := id st'
    exact ⟨es'[i].key, rfl, go_of (s := { s with heap := h' }) e c dd (by decide) ⟨.ref kvs[i].2.1, H, I1, hkey, ⟨rfl, _, hkv, rfl⟩, st', fun b hb => (hf b hb).1⟩⟩
  done := by
    intro X hP hw hK hc i pins s σ H E I hf st hg
    subst hP hw hK
    obtain ⟨hd, hi⟩ := hg
    obtain ⟨f0, f1, f2, f3, f4, f5⟩ := hf it (by simp)
    obtain ⟨hs, hz, es', ep', hdt, raw, _, ent⟩ := Inv.frzN I hd
    obtain ⟨rfl, rfl⟩ := dict_ep hod hdt
    exact wpAny_pyNext_keys_end_raw (I.ok.hd hc) st raw (by rw [hsz]; exact hi) fun h' eb => ⟨rfl, I.turned (t' := s.toks) (fun b ob hb e => eb b ob hb e) f0 f1 f3 f4 f5⟩
  self := fun A i s Q E st h => by
    refine wpAny_pyIter_slot st.typeIs F.slot_dict_keyiterator_iter (wpAny_call_entry F.slot_dict_keyiterator_iter st.typeIs F.entry_dict_keyiterator_iter ?_ (F.args_dict_keyiterator_iter_1 _))
    show wpAny _ _ (ret (.ref it)) _ _ s
    exact wpAny_pure ⟨_, rfl, "dict_keyiterator", _, st.typeIs, F.slot_dict_keyiterator_next.lookup, h⟩
theorem turn_nvals {kvs : List NE} (it : Addr) (hod : o.data = .dict es ep) (hsz : es.size = kvs.length) : Turn P w K tg (Itnv w d o kvs) [it] it (fun i h => h.IsValIter it d i es.size ep) where
  mem := by simp
  obj := fun i h st b hb => by
    have e : b = it := by simpa using hb
    subst e
    obtain ⟨oi, e, c, dd⟩ := st
    exact ⟨oi, e, fun v z => by rw [dd] at z; cases z⟩
  keep := fun i h h' st k => st.at fun oi e => k it (by simp) oi e
  item := by
    intro X hP hw hK hc i pins s σ H E I hf st hg
    subst hP hw hK
    obtain ⟨hd, hi⟩ := hg
    obtain ⟨f0, f1, f2, f3, f4, f5⟩ := hf it (by simp)
    obtain ⟨hs, hz, es', ep', hdt, raw, _, ent⟩ := Inv.frzN I hd
    obtain ⟨rfl, rfl⟩ := dict_ep hod hdt
    have hkv : kvs[i]? = some kvs[i] := List.getElem?_eq_getElem hi
    have hlt : i < es'.size := by rw [hsz]; exact hi
    obtain ⟨_, hval⟩ := ent i _ hlt hkv
    refine wpAny_pyNext_values_item_raw st raw hlt fun h' st' sb => ?_
    have I1 : Inv X pins σ H { s with heap := h' } := I.turned (t' := s.toks) (fun b ob hb e => (sb.2 b hb).trans e) f0 f1 f3 f4 f5
    obtain ⟨oi, e, c, dd⟩ := id st'
    exact ⟨es'[i].val, rfl, go_of (s := { s with heap := h' }) e c dd (by decide) ⟨kvs[i].2.2, H, I1, hval, ⟨rfl, _, hkv, rfl⟩, st', fun b hb => (hf b hb).1⟩⟩
  done := by
    intro X hP hw hK hc i pins s σ H E I hf st hg
    subst hP hw hK
    obtain ⟨hd, hi⟩ := hg
    obtain ⟨f0, f1, f2, f3, f4, f5⟩ := hf it (by simp)
    obtain ⟨hs, hz, es', ep', hdt, raw, _, ent⟩ := Inv.frzN I hd
    obtain ⟨rfl, rfl⟩ := dict_ep hod hdt
    exact wpAny_pyNext_values_end_raw (I.ok.hd hc) st raw (by rw [hsz]; exact hi) fun h' eb => ⟨rfl, I.turned (t' := s.toks) (fun b ob hb e => eb b ob hb e) f0 f1 f3 f4 f5⟩
  self := fun A i s Q E st h => wpAny_pyIter_valiter st h
theorem turn_nitems {kvs : List NE} {elts : List Expr} {kk : Nat} {tpos : Pos} (it : Addr) (hod : o.data = .dict es ep) (hsz : es.size = kvs.length) :
    Turn P w K (.Tuple elts kk tpos) (Itni w d o kvs) [it] it (fun i h => ∃ ok ov, IsItemIter h it d i es.size ep ok ov) where
  mem := by simp
  obj := fun i h st b hb => by
    have e : b = it := by simpa using hb
    subst e
    obtain ⟨ok, ov, e⟩ := st
    exact ⟨_, e, fun v z => nomatch z⟩
  keep := fun i h h' st k => let ⟨ok, ov, e⟩ := st; ⟨ok, ov, k it (by simp) _ e⟩
  item := by
    intro X hP hw hK hc i pins s σ H E I hf st hg
    subst hP hw hK
    obtain ⟨hd, hi⟩ := hg
    obtain ⟨hs, hz, es', ep', hdt, raw, _, ent⟩ := Inv.frzN I hd
    obtain ⟨rfl, rfl⟩ := dict_ep hod hdt
    have hkv : kvs[i]? = some kvs[i] := List.getElem?_eq_getElem hi
    have hlt : i < es'.size := by rw [hsz]; exact hi
    obtain ⟨hkey, hval⟩ := ent i _ hlt hkv
    obtain ⟨ok, ov, he⟩ := st
    have hlt' : it < s.heap.objs.size := Heap.lt_size he
    refine wpAny_pyNext_items_item_raw he raw hlt fun h' ho hT hz' hk => ?_
    refine ⟨_, rfl, wpAny_letOwnedTupleGo_items (s := { s with heap := h' }) ho fun h'' he' sb => ?_⟩
    have hT2 : h''.get? s.heap.objs.size = some { cls := .type "tuple", data := .seq #[es'[i].key, es'[i].val] } := (sb.2 _ (Nat.ne_of_gt hlt')).trans hT
    have new : ObjOk X.prog X.w (upd H s.heap.objs.size (.tup [.ref kvs[i].2.1, kvs[i].2.2])) h'' s.heap.objs.size (.tup [.ref kvs[i].2.1, kvs[i].2.2]) :=
      ⟨by show 2 ≤ sizeLine; decide, [es'[i].key, es'[i].val], .cons hkey (.cons hval .nil), ⟨_, hT2, rfl, _, rfl⟩⟩
    have I1 : Inv X pins σ (upd H s.heap.objs.size (.tup [.ref kvs[i].2.1, kvs[i].2.2])) { s with heap := h'' } :=
      I.turnedNew (t' := s.toks) (ch := [it]) (fun b ob hb e => (sb.2 b (by simpa using hb)).trans (hk b ob (by simpa using hb) e)) hf (Nat.le_refl _) new
    refine ⟨.ref s.heap.objs.size, _, I1, rfl, ⟨_, _, hkv, rfl, I.hok.fresh (Nat.le_refl _), rfl⟩, ⟨es'[i].key, es'[i].val, he'⟩, fun b hb => ?_⟩
    have e : b = it := by simpa using hb
    rw [e, upd_ne (Nat.ne_of_lt hlt')]
    exact (hf it (by simp)).1
  done := by
    intro X hP hw hK hc i pins s σ H E I hf st hg
    subst hP hw hK
    obtain ⟨hd, hi⟩ := hg
    obtain ⟨f0, f1, f2, f3, f4, f5⟩ := hf it (by simp)
    obtain ⟨hs, hz, es', ep', hdt, raw, _, ent⟩ := Inv.frzN I hd
    obtain ⟨rfl, rfl⟩ := dict_ep hod hdt
    obtain ⟨ok, ov, he⟩ := st
    exact wpAny_pyNext_items_end_raw (I.ok.hd hc) he raw (by rw [hsz]; exact hi) fun h' eb => ⟨rfl, I.turned (t' := s.toks) (fun b ob hb e => eb b ob hb e) f0 f1 f3 f4 f5⟩
  self := fun A i s Q E st h => let ⟨_, _, e⟩ := st; PySem.W.kcp_self e h
end
/-- the dict is locked -/
def iNKeys (w : World) (td : TE) : TI := fun σ H R => td σ H fun x H1 => ∃ d o kvs, x = .ref d ∧ H1 d = some (.frz o (dN w d kvs)) ∧ R (Itnk w d o kvs) H1
def iNVals (w : World) (td : TE) : TI := fun σ H R => td σ H fun x H1 => ∃ d o kvs, x = .ref d ∧ H1 d = some (.frz o (dN w d kvs)) ∧ R (Itnv w d o kvs) H1
def iNItems (w : World) (td : TE) : TI := fun σ H R => td σ H fun x H1 => ∃ d o kvs, x = .ref d ∧ H1 d = some (.frz o (dN w d kvs)) ∧ R (Itni w d o kvs) H1
section
variable {X : Cx} {tg e : Expr} {td : TE} {apos cpos : Pos}
theorem pi_nkeys (he : PE X e td) : PI X tg e (iNKeys X.w td) := by
  refine ⟨fun pins s σ H R I h => ?_⟩
  refine thn (he.run pins s σ H _ I h) fun u s1 ⟨x, H1, I1, rx, d, o, kvs, ex, hd, q⟩ => ?_
  subst ex
  obtain rfl : u = Value.ref d := rx
  obtain ⟨hs, hz, es, ep, hdt, raw, hsz, ent⟩ := Inv.frzN I1 hd
  exact wpAny_pyIter_dict_raw hs raw (pi_one (tk := s1.toks) I1 _ (turn_nkeys _ hdt hsz) ⟨_, Heap.get?_push_size _ rfl, rfl, rfl⟩ q)
theorem pi_nvalues (he : PE X e td) (hbase : attributeBase e "values" X.env (eval e X.env) = eval e X.env := by rfl) (hline : (apos.endLine == cpos.line) = true := by rfl) : PI X tg (.Call (.Attribute e "values" apos) [] [] cpos) (iNVals X.w td) := by
  refine ⟨fun pins s σ H R I h => ?_⟩
  refine wpAny_Call_method (T := "dict") (id := "dict.values") hbase rfl hline F.plainAttrs_dict F.slot_dict_values F.type_dict_values (thn (he.run pins s σ H _ I h) fun u s1 ⟨x, H1, I1, rx, d, o, kvs, ex, hd, q⟩ => ?_)
  subst ex
  obtain rfl : u = Value.ref d := rx
  obtain ⟨hs, hz, es, ep, hdt, raw, hsz, ent⟩ := Inv.frzN I1 hd
  refine ⟨raw.typeIs, fun b q => ?_, ?_⟩
  · cases q
    obtain ⟨ob, h1, h2, _⟩ := raw
    exact ⟨ob, h1, h2.2.1⟩
  have I2 : Inv X pins σ H1 { s1 with heap := s1.heap.push { cls := .type "dict_values", data := .fields #[.ref d] } } := I1.kept (t' := s1.toks) fun b ob q => Heap.get?_push_of_some _ q
  have fin : wpAny (model X.prog X.w) X.A (pyIter (.ref s1.heap.objs.size)) (PIE X pins σ tg R) X.xe { s1 with heap := s1.heap.push { cls := .type "dict_values", data := .fields #[.ref d] } } :=
    wpAny_pyIter_values_raw (d := d) ⟨_, Heap.get?_push_size _ rfl, rfl, rfl⟩ (raw.at fun o q => Heap.get?_push_of_some _ q) (pi_one (tk := s1.toks) I2 _ (turn_nvals _ hdt hsz) ⟨_, Heap.get?_push_size _ rfl, rfl, rfl⟩ q)
  show wpAny _ _ (callWith cpos (.builtin "dict.values") [.ref d] [] []) _ X.xe s1
  exact method_meetsIn F.slot_dict_values F.entry_dict_values rfl (PySem.evalArgs_none ⟨rfl, raw.typeIs, F.args_dict_values_1 _, _, meets_dict_values_raw d hs, ⟨es, ep, raw⟩, fin⟩)
theorem pi_nitems {elts : List Expr} {kk : Nat} {tpos : Pos} (he : PE X e td) (hbase : attributeBase e "items" X.env (eval e X.env) = eval e X.env := by rfl) (hline : (apos.endLine == cpos.line) = true := by rfl) :
    PI X (.Tuple elts kk tpos) (.Call (.Attribute e "items" apos) [] [] cpos) (iNItems X.w td) := by
  refine ⟨fun pins s σ H R I h => ?_⟩
  refine wpAny_Call_method (T := "dict") (id := "dict.items") hbase rfl hline F.plainAttrs_dict F.slot_dict_items F.type_dict_items (thn (he.run pins s σ H _ I h) fun u s1 ⟨x, H1, I1, rx, d, o, kvs, ex, hd, q⟩ => ?_)
  subst ex
  obtain rfl : u = Value.ref d := rx
  obtain ⟨hs, hz, es, ep, hdt, raw, hsz, ent⟩ := Inv.frzN I1 hd
  refine ⟨raw.typeIs, fun b q => ?_, ?_⟩
  · cases q
    obtain ⟨ob, h1, h2, _⟩ := raw
    exact ⟨ob, h1, h2.2.1⟩
  have I2 : Inv X pins σ H1 { s1 with heap := s1.heap.push { cls := .type "dict_items", data := .fields #[.ref d] } } := I1.kept (t' := s1.toks) fun b ob q => Heap.get?_push_of_some _ q
  have fin : wpAny (model X.prog X.w) X.A (pyIter (.ref s1.heap.objs.size)) (PIE X pins σ (.Tuple elts kk tpos) R) X.xe { s1 with heap := s1.heap.push { cls := .type "dict_items", data := .fields #[.ref d] } } := 
    wpAny_pyIter_items_raw (d := d) ⟨_, Heap.get?_push_size _ rfl, rfl, rfl⟩ (raw.at fun o q => Heap.get?_push_of_some _ q) (pi_one (tk := s1.toks) I2 _ (turn_nitems _ hdt hsz) ⟨.none, .none, Heap.get?_push_size _ rfl⟩ q)
  show wpAny _ _ (callWith cpos (.builtin "dict.items") [.ref d] [] []) _ X.xe s1
  exact method_meetsIn F.slot_dict_items F.entry_dict_items rfl (PySem.evalArgs_none ⟨rfl, raw.typeIs, F.args_dict_items_1 _, _, meets_dict_items_raw d hs, ⟨es, ep, raw⟩, fin⟩)
end
end K1D

set_option Elab.async false
set_option linter.all false
set_option maxRecDepth 100000
set_option maxHeartbeats 4000000
/-! {k: v for .. in ..} where the keys are nested. Speaks of no program. -/
namespace K1D
open PySem PySem.Spec PyProof.Rows L2
/-- what one pair does to the new dict at D -/
def PutAt (K : PySem.W.Frag) (w : World) (D : Addr) (y z : V) (G : Hp) (go : Hp → Prop) : Prop :=
  ∃ kvs k b, y = .ref b ∧ G D = some (dN w D kvs) ∧ KeysN K G kvs ∧ kvs.length < sizeLine ∧ KeyV K G k (.ref b) ∧ k.depth ≤ 8 ∧ go (upd G D (dN w D (putN kvs k b z)))
/-- {k: v for target in iter if ..}: D the new dict -/
def tNDc (K : PySem.W.Frag) (w : World) (wi : TI) (g : TG) (tt : TT) (tk tv : TE) (vs : List Nat) : TE := fun σ H Q => wi σ H fun J G => ∀ D, G D = none →
  ∃ W : Nat → Nat → Hp → Prop, (∃ m, W 0 m (upd G D (dN w D []))) ∧ ∀ i m F, W i m F →
    (J.stop i F ∧ Q (.ref D) F) ∨
    (J.go i F ∧ ∃ Nx : Hp → Prop, (∀ F', Nx F' → ∃ m', m' < m ∧ W (i + 1) m' F') ∧ ∀ x F', J.yld i F x F' → g x (wipe σ vs) F' fun σ2 F2 => wipe σ2 vs = wipe σ vs ∧ tt σ2 F2 fun b F3 =>
      if b = true then tk σ2 F3 fun y F4 => tv σ2 F4 fun z F5 => PutAt K w D y z F5 Nx else Nx F3)
section
variable {X : Cx}
theorem ndc_core {pn : List (Addr × Obj)} {s : Shared} {τ : L2.St} {H : Hp} {Q : VK} {kx vx tg iter : Expr} {ifs : List Expr} {scope : Scope} {own : List (Str × Nat)} {pos pos' : Pos} {wi : TI} {g : TG} {tt : TT} {tk tv : TE} {use : Option (Value → Sem Unit)} {Qf : Value → Shared → Prop}
    (hu : X.A.units + 8 < cLine) (hc : X.calm = true) (hN : X.N.Nodup) (I : Inv X pn τ H s) (hi : PI X tg iter wi) (ok : BlkOk X.N X.env.scope scope own)
    (hg : ∀ (s : Shared) (H : Hp) (C : Addr) (cl : List (Str × Addr)) (fp : List Addr), PG (X.blk s H scope (compEnvC scope cl C X.env) fp) tg g)
    (ht : ∀ (s : Shared) (H : Hp) (C : Addr) (cl : List (Str × Addr)) (fp : List Addr), PTs (X.blk s H scope (compEnvC scope cl C X.env) fp) ifs tt)
    (hk : ∀ (s : Shared) (H : Hp) (C : Addr) (cl : List (Str × Addr)) (fp : List Addr), PE (X.blk s H scope (compEnvC scope cl C X.env) fp) kx tk)
    (hv : ∀ (s : Shared) (H : Hp) (C : Addr) (cl : List (Str × Addr)) (fp : List Addr), PE (X.blk s H scope (compEnvC scope cl C X.env) fp) vx tv)
    (hs : ∀ x, foldedSetIterable iter X.env x = pure x) (h : tNDc X.K X.w wi g tt tk tv (own.map (·.2)) τ H Q)
    (back : ∀ D C s' m G, Inv X pn τ G s' → Q (.ref D) G → s'.heap.Ns C m → FpOk X pn G C → compPost (model X.prog X.w) X.A X.xe use Qf (.ref D) C (.ok .next) s') :
    wpAny (model X.prog X.w) X.A (comprehension (.DictComp kx vx [⟨tg, iter, ifs, 0⟩] scope pos) scope X.env pos' newDict false (eval iter X.env) use) Qf X.xe s := by
  have free : ∀ y ∈ scope.names, y.2 = .free → ∃ c, X.env.cells.lookup y.1 = some c := fun y hy e => (ok.free y hy e).elim (fun k => I.ok.has _ (.inl k)) fun k => I.ok.has _ (.inr k)
  refine wpAny_comprehension_free (use := use) rfl hs (closure_ok free) ok.kind (fun y hy e => by rw [ok.uniq y hy, e]) ?_
  refine thn (hi.run pn s τ H _ I h) fun xv s1 got => thn got fun itv s2 z => ?_
  obtain ⟨it, fp, tn, J, G, rfl, I2, T, sa, fa, turn0⟩ := z
  refine wpAny_newObj_type (newEnv_comp ?_)
  generalize hD : s2.heap.objs.size = D
  obtain ⟨W, ⟨m0, w0⟩, turn⟩ := turn0 D (I2.hok.fresh (Nat.le_of_eq hD))
  generalize e3 : ({ s2 with heap := s2.heap.push { cls := .type "dict", data := .dict #[] } } : Shared) = s3
  have p3 : s3.heap = s2.heap.push { cls := .type "dict", data := .dict #[] } := by rw [← e3]
  have I3 : Inv X pn τ (upd G D (dN X.w D [])) s3 := by
    rw [← e3]
    refine I2.laid (t' := s2.toks) (fun b o q => Heap.get?_push_of_some _ q) (Nat.le_of_eq hD) ?_
    rw [← hD]
    exact dn_empty s2.heap I2.big
  have low : ∀ b ∈ fp, b < s2.heap.objs.size := fun b hb => let ⟨o, q, _⟩ := T.obj _ _ sa b hb; Heap.lt_size q
  have fb : ∀ b ∈ fp, FpOk X pn (upd G D (dN X.w D [])) b ∧ b < s3.heap.objs.size := fun b hb => by
    have lt := low b hb
    refine ⟨⟨?_, (fa b hb).2⟩, by rw [p3, Heap.size_push]; exact Nat.lt_succ_of_lt lt⟩
    rw [upd_ne (by rw [← hD]; exact Nat.ne_of_lt lt)]
    exact (fa b hb).1
  have sb : tn 0 s3.heap := T.keep _ _ _ sa fun b _ o q => by rw [p3]; exact Heap.get?_push_of_some _ q
  have I4 := block_start I3 ok hN fb
  -- the block's own context
  let cl := cellsFrom (s3.heap.objs.size + 1) scope.names (cloFrom X.env.cells scope.names [])
  have rg := hg s3 (upd G D (dN X.w D [])) s3.heap.objs.size cl fp
  have rt := ht s3 (upd G D (dN X.w D [])) s3.heap.objs.size cl fp
  have rk := hk s3 (upd G D (dN X.w D [])) s3.heap.objs.size cl fp
  have rv := hv s3 (upd G D (dN X.w D [])) s3.heap.objs.size cl fp
  show codeAny _ _ (.compStart (.DictComp kx vx [⟨tg, iter, ifs, 0⟩] scope pos) 0 (.ref it) (.ref D) (compEnvC scope cl s3.heap.objs.size X.env)) (compPost (model X.prog X.w) X.A X.xe use Qf (.ref D) s3.heap.objs.size) { s3 with heap := pushCells (s3.heap.push { cls := .type "dict", data := .dict #[] }) scope.names }
  generalize hce : compEnvC scope cl s3.heap.objs.size X.env = ce at I4 rg rt rk rv ⊢
  have cL : ce.locals = s3.heap.objs.size := by subst hce; rfl
  have nfp : ∀ b ∈ fp, (upd G D (dN X.w D [])) b = none := fun b hb => (fb b hb).1.1
  generalize hG3 : upd G D (dN X.w D []) = G3 at I3 I4 rg rt rk rv w0 nfp fb
  generalize e4 : ({ s3 with heap := pushCells (s3.heap.push { cls := .type "dict", data := .dict #[] }) scope.names } : Shared) = s4 at I4 ⊢
  have sc : tn 0 s4.heap := T.keep _ _ _ sb fun b _ o q => by rw [← e4]; exact pushCells_keeps _ _ _ _ (Heap.get?_push_of_some _ q)
  have apart : ∀ {τ' : L2.St} {F : Hp} {s' : Shared}, Inv (X.blk s3 G3 scope ce fp) [] τ' F s' → (∀ b ∈ fp, F b = none) → ∀ b ∈ fp, FpOk (X.blk s3 G3 scope ce fp) [] F b := fun {τ' F s'} J' hn b hb =>
    ⟨hn b hb, (J'.ok.exf b hb).1, J'.ok.exfs b hb, .inl hb, fun x c q => (J'.ok.exf b hb).2 x c q, fun p hp => absurd (show p ∈ ([] : List (Addr × Obj)) ++ [] from hp) (by simp)⟩
  refine codeAny_compStart_dict ?loop (T.self X.A 0 _ _ _ sc ?loop)
  refine compLoop_anyD (fun n s' => ∃ i F, Inv (X.blk s3 G3 scope ce fp) [] (wipe τ (own.map (·.2))) F s' ∧ tn i s'.heap ∧ (∀ b ∈ fp, F b = none) ∧ W i n F) ?_ m0 ⟨0, G3, I4, sc, nfp, w0⟩
  rintro n s5 ⟨i, F5, I5, s5a, n5, w5⟩
  rcases turn i n F5 w5 with ⟨halt, fin0⟩ | ⟨go, Nx, less, step⟩
  · -- no further one: back in the def
    refine thnF (T.done (X.blk s3 G3 scope ce fp) rfl rfl rfl hc i [] s5 _ F5 (fun _ _ => False) I5 (apart I5 n5) s5a halt) fun r s6 ⟨hr, I6⟩ => ?_
    subst hr
    have I7 : Inv X pn τ F5 s6 := I3.call' (ch := fp) I6.os I6.base I6.hok I6.bare fun b hb => let ⟨_, q1, q2, q3, q4, q5⟩ := (fb b hb).1; ⟨q3, q1, q4, q5⟩
    have nC : F5 s3.heap.objs.size = none := by
      rw [← cL]
      exact I6.free
    obtain ⟨m, hn, _⟩ := I6.loc
    have hn' : s6.heap.Ns ce.locals m := hn
    rw [cL] at hn'
    exact back D s3.heap.objs.size s6 m F5 I7 fin0 hn' (I3.fpOk (Nat.le_refl _) nC)
  · refine thnF (T.item (X.blk s3 G3 scope ce fp) rfl rfl rfl hc i [] s5 _ F5 (fun _ _ => False) I5 (apart I5 n5) s5a go) fun r s6 ⟨u, hr, h6⟩ => ?_
    subst hr
    refine thnF h6 fun _ s7 ⟨x, F7, I7, r7, y7, s7a, n7⟩ => ?_
    have I7' := I7.pinned (apart I7 n7) (T.obj _ _ s7a)
    refine thnF (rg.run _ s7 _ F7 x u _ I7' r7 (step x F7 y7)) fun _ s8 ⟨τ8, F8, I8, hw8, q8⟩ => ?_
    refine thnF (rt.run _ s8 τ8 F8 _ I8 q8) fun b s9 ⟨F9, I9, q9⟩ => ?_
    have fin : ∀ {s' : Shared} {F' : Hp}, Inv (X.blk s3 G3 scope ce fp) ([] ++ pinsAt fp s7.heap) τ8 F' s' → Nx F' → ∃ m, m < n ∧ ∃ i F', Inv (X.blk s3 G3 scope ce fp) [] (wipe τ (own.map (·.2))) F' s' ∧ tn i s'.heap ∧ (∀ b ∈ fp, F' b = none) ∧ W i m F' := fun {s' F'} J' nx => by
      obtain ⟨m', lt, w'⟩ := less F' nx
      have pin' : ∀ b ∈ fp, ∀ o, s7.heap.get? b = some o → s'.heap.get? b = some o ∧ F' b = none := fun b hb o q =>
        let z := J'.pin (b, o) (List.mem_append_right _ (List.mem_append_right _ (mem_pinsAt hb q)))
        ⟨z.1, z.2.1⟩
      have hl : (wipe τ (own.map (·.2))).length = τ8.length := by rw [← hw8, wipe_length]
      refine ⟨m', lt, i + 1, F', (J'.unpinned (pins := [])).weak hl (fun j v q => ?_), T.keep _ _ _ s7a fun b hb o q => (pin' b hb o q).1, fun b hb => ?_, w'⟩
      · rw [← hw8] at q
        exact (wipe_some q).1
      · obtain ⟨o, q, _⟩ := T.obj _ _ s7a b hb
        exact (pin' b hb o q).2
    cases b with
    | false =>
      simp only [Bool.false_eq_true, if_false] at q9 ⊢
      exact fin I9 q9
    | true =>
      simp only [if_true] at q9 ⊢
      refine thnF (rk.run _ s9 τ8 F9 _ I9 q9) fun kw s10 ⟨y, F10, I10, r10, q10⟩ => ?_
      refine thnF (rv.run _ s10 τ8 F10 _ I10 q10) fun vw s11 ⟨z, F11, I11, r11, kvs, k, p, ey, hat, ks, lt, key, dep, nx⟩ => ?_
      subst ey
      obtain rfl : kw = Value.ref p := r10
      exact n_dictSet (X := X.blk s3 G3 scope ce fp) hu I11 hat ks lt key dep r11 fun s12 I12 => fin I12 nx
theorem pe_ndc {kx vx tg iter : Expr} {ifs : List Expr} {scope : Scope} {own : List (Str × Nat)} {pos : Pos} {wi : TI} {g : TG} {tt : TT} {tk tv : TE} (hu : X.A.units + 8 < cLine) (hc : X.calm = true) (hN : X.N.Nodup) (hi : PI X tg iter wi) (ok : BlkOk X.N X.env.scope scope own)
    (hg : ∀ (s : Shared) (H : Hp) (C : Addr) (cl : List (Str × Addr)) (fp : List Addr), PG (X.blk s H scope (compEnvC scope cl C X.env) fp) tg g)
    (ht : ∀ (s : Shared) (H : Hp) (C : Addr) (cl : List (Str × Addr)) (fp : List Addr), PTs (X.blk s H scope (compEnvC scope cl C X.env) fp) ifs tt)
    (hk : ∀ (s : Shared) (H : Hp) (C : Addr) (cl : List (Str × Addr)) (fp : List Addr), PE (X.blk s H scope (compEnvC scope cl C X.env) fp) kx tk)
    (hv : ∀ (s : Shared) (H : Hp) (C : Addr) (cl : List (Str × Addr)) (fp : List Addr), PE (X.blk s H scope (compEnvC scope cl C X.env) fp) vx tv) (hs : ∀ x, foldedSetIterable iter X.env x = pure x := by intro _; rfl) :
    PE X (.DictComp kx vx [⟨tg, iter, ifs, 0⟩] scope pos) (tNDc X.K X.w wi g tt tk tv (own.map (·.2))) := ⟨fun pn s τ H Q I h => by
  rw [arm_eval_DictComp]
  refine ndc_core hu hc hN I hi ok hg ht hk hv hs h fun D C s' m G I' q hn ⟨f0, f1, f2, f3, f4, f5⟩ => ⟨m, hn, fun h2 same => ?_⟩
  exact ⟨.ref D, G, I'.turned (t' := s'.toks) (fun b o hb e => (same.2 b hb).trans e) f0 f1 f3 f4 f5, rfl, q⟩⟩

/-- name = {..} on one line, the name a local -/
theorem ps_setNdc {i : Nat} {y : Str} {py : Pos} {kx vx tg iter : Expr} {ifs : List Expr} {scope : Scope} {own : List (Str × Nat)} {pos sp : Pos} {wi : TI} {g : TG} {tt : TT} {tk tv : TE} (hu : X.A.units + 8 < cLine) (hc : X.calm = true) (hN : X.N.Nodup) (hy : X.N[i]? = some y) (loc : X.env.scope.names.lookup y = some .local)
    (sw : swapsWith (.DictComp kx vx [⟨tg, iter, ifs, 0⟩] scope pos) (some (.Name y py)) sp.line X.env = pure true) (hi : PI X tg iter wi) (ok : BlkOk X.N X.env.scope scope own)
    (hg : ∀ (s : Shared) (H : Hp) (C : Addr) (cl : List (Str × Addr)) (fp : List Addr), PG (X.blk s H scope (compEnvC scope cl C X.env) fp) tg g)
    (ht : ∀ (s : Shared) (H : Hp) (C : Addr) (cl : List (Str × Addr)) (fp : List Addr), PTs (X.blk s H scope (compEnvC scope cl C X.env) fp) ifs tt)
    (hk : ∀ (s : Shared) (H : Hp) (C : Addr) (cl : List (Str × Addr)) (fp : List Addr), PE (X.blk s H scope (compEnvC scope cl C X.env) fp) kx tk)
    (hv : ∀ (s : Shared) (H : Hp) (C : Addr) (cl : List (Str × Addr)) (fp : List Addr), PE (X.blk s H scope (compEnvC scope cl C X.env) fp) vx tv) (hs : ∀ x, foldedSetIterable iter X.env x = pure x := by intro _; rfl) :
    PS X (.Assign [.Name y py] (.DictComp kx vx [⟨tg, iter, ifs, 0⟩] scope pos) sp) (tAsg (tNDc X.K X.w wi g tt tk tv (own.map (·.2))) (gName i)) := ⟨fun pn s τ H D I h => by
  rw [exec_Assign_Name_used _ _ _ _ sw]
  refine wpAny_bind (wpAny_standAt (wpAny_bind ?_))
  have h' : tNDc X.K X.w wi g tt tk tv (own.map (·.2)) τ H (fun x G => gName i x τ G D.nx) := h
  show wpAny _ X.A (do let _ ← comprehension (.DictComp kx vx [⟨tg, iter, ifs, 0⟩] scope pos) scope X.env (firstIterPos [⟨tg, iter, ifs, 0⟩] pos) newDict false (eval iter X.env) (some (assign (.Name y py) X.env))) _ _ s
  refine wpAny_bind (thn (ndc_core (Qf := fun _ s' => SP X pn D .next s') hu hc hN I hi ok hg ht hk hv hs h' fun L C s' m G I' q hn ⟨f0, f1, f2, f3, f4, f5⟩ => ?_) fun _ s' hq => wpAny_pure (wpAny_pure hq))
  show wpAny _ _ (assign (.Name y py) X.env (.ref L)) _ _ _
  refine wpAny_assign_Name (store_ok2 (v := V.ref L) I' hN hy (.inl loc) rfl (fun s2 I2 ⟨a, same, ha⟩ => ?_) (.inr loc))
  have ne : C ≠ a := ha.elim (fun z => by rw [z]; exact f1) fun z q => f4 y a z q.symm
  exact ⟨m, hn.sameBut same ne, fun h3 sm3 => ⟨_, G, I2.turned (t' := s2.toks) (fun b o hb e => (sm3.2 b hb).trans e) f0 f1 f3 f4 f5, q⟩⟩⟩

/-! ### the loops -/
/-- a block over n things, of any iterator that knows its turns -/
theorem blk_n {J : It} {n : Nat} {G : Hp} {o : Addr → HO} {D : Addr} {Qd : Hp → Prop} {body : V → Hp → (Hp → Prop) → Prop} (Pv : Nat → Hp → Prop) (h0 : Pv 0 (upd G D (o D))) (go : ∀ i F, i < n → Pv i F → J.go i F) (halt : ∀ F, Pv n F → J.stop n F)
    (hs : ∀ i F x F', i < n → Pv i F → J.yld i F x F' → body x F' (Pv (i + 1))) (hd : ∀ F, Pv n F → Qd F) :
    ∃ W : Nat → Nat → Hp → Prop, (∃ m, W 0 m (upd G D (o D))) ∧ ∀ i m F, W i m F → (J.stop i F ∧ Qd F) ∨ (J.go i F ∧ ∃ Nx : Hp → Prop, (∀ F', Nx F' → ∃ m', m' < m ∧ W (i + 1) m' F') ∧ ∀ x F', J.yld i F x F' → body x F' Nx) := by
  refine ⟨fun i m F => m = n - i ∧ i ≤ n ∧ Pv i F, ⟨n, (Nat.sub_zero n).symm, Nat.zero_le _, h0⟩, ?_⟩
  rintro i m F ⟨rfl, hi, p⟩
  rcases Nat.lt_or_ge i n with lt | ge
  · exact .inr ⟨go i F lt p, Pv (i + 1), fun F' p' => ⟨n - (i + 1), by omega, rfl, lt, p'⟩, fun x F' y => hs i F x F' lt p y⟩
  · obtain rfl : i = n := by omega
    exact .inl ⟨halt F p, hd F p⟩
/-- a for statement over n things -/
theorem for_n {J : It} {n : Nat} {g : TG} {tb : TS} {D : Ends} {σ : L2.St} {H : Hp} (Pv : Nat → L2.St → Hp → Prop) (h0 : Pv 0 σ H) (go : ∀ i σ F, i < n → Pv i σ F → J.go i F) (halt : ∀ σ F, Pv n σ F → J.stop n F)
    (hs : ∀ i σ F x F', i < n → Pv i σ F → J.yld i F x F' → g x σ F' fun σ2 H2 => tb { D with nx := Pv (i + 1), ct := Pv (i + 1), bk := D.nx } σ2 H2) (hd : ∀ σ F, Pv n σ F → D.nx σ F) :
    ∃ W : Nat → Nat → L2.St → Hp → Prop, (∃ m, W 0 m σ H) ∧ ∀ i m σ F, W i m σ F →
      (J.stop i F ∧ D.nx σ F) ∨ (J.go i F ∧ ∃ N : L2.St → Hp → Prop, (∀ σ' F', N σ' F' → ∃ m', m' < m ∧ W (i + 1) m' σ' F') ∧ ∀ x F', J.yld i F x F' → g x σ F' fun σ2 H2 => tb { D with nx := N, ct := N, bk := D.nx } σ2 H2) := by
  refine ⟨fun i m σ F => m = n - i ∧ i ≤ n ∧ Pv i σ F, ⟨n, (Nat.sub_zero n).symm, Nat.zero_le _, h0⟩, ?_⟩
  rintro i m σ F ⟨rfl, hi, p⟩
  rcases Nat.lt_or_ge i n with lt | ge
  · exact .inr ⟨go i σ F lt p, Pv (i + 1), fun σ' F' p' => ⟨n - (i + 1), by omega, rfl, lt, p'⟩, fun x F' y => hs i σ F x F' lt p y⟩
  · obtain rfl : i = n := by omega
    exact .inl ⟨halt σ F p, hd σ F p⟩
end
end K1D

set_option Elab.async false
set_option linter.all false
set_option maxRecDepth 100000
set_option maxHeartbeats 4000000
/-! list(d) and sorted(d.items()) of a dict with nested keys. Speaks of no program. -/
namespace K1D
open PySem PySem.Spec PyProof.Rows L2
section
variable {X : Cx} {pn : List (Addr × Obj)} {σ : L2.St} {H : Hp} {s : Shared}
mutual
/-- read as data: no list on the way -/
theorem KeyV.reads (I : Inv X pn σ H s) : ∀ (k : NestedKey) (v : V) (u : Value), KeyV X.K H k v → RelV v u → Reads s.heap u k.data []
  | .none, _, _, h, r => by cases h; cases r; exact Reads.none
  | .num i, _, _, h, r => by
    cases h
    obtain ⟨t, rfl⟩ := r
    exact Reads.int i t
  | .text x, _, _, h, r => by
    cases h
    obtain ⟨t, rfl⟩ := r
    exact Reads.str x t
  | .tup ks, _, _, h, r => by
    cases h with
    | tup h1 h2 =>
      cases r
      obtain ⟨its, rv, ⟨o, ho, hc, n, hd⟩, _⟩ := I.tuple (SqT.of h1)
      exact Reads.tuple ho hc hd (KeyVs.reads I ks _ _ h2 rv)
    | frz h1 _ h2 =>
      cases r
      obtain ⟨its, rv, ⟨o, ho, hc, n, hd⟩, _⟩ := I.tuple (.inl (.inr ⟨_, h1⟩))
      exact Reads.tuple ho hc hd (KeyVs.reads I ks _ _ h2 rv)
theorem KeyVs.reads (I : Inv X pn σ H s) : ∀ (ks : List NestedKey) (vs : List V) (us : List Value), KeyVs X.K H ks vs → Vals vs us → ReadsAll s.heap us (NestedKey.datas ks) []
  | [], _, _, h, r => by cases h; cases r; exact ReadsAll.nil
  | k :: ks, _, _, h, r => by
    cases h with
    | cons h1 h2 =>
      cases r with
      | cons r1 r2 => exact ReadsAll.cons (KeyV.reads I k _ _ h1 r1) (KeyVs.reads I ks _ _ h2 r2)
end
/-! reading off a heap that keeps all objects -/
mutual
theorem Reads.kept0 {h h' : Heap} (kp : ∀ b o, h.get? b = some o → h'.get? b = some o) : ∀ (k : NestedKey) (u : Value), Reads h u k.data [] → Reads h' u k.data []
  | .none, _, r => by cases r; exact Reads.none
  | .num i, _, r => by cases r; exact Reads.int i _
  | .text x, _, r => by cases r; exact Reads.str x _
  | .tup ks, _, r => by
    have r' : Reads h _ (.tuple (NestedKey.datas ks)) [] := r
    cases r' with
    | tuple h1 h2 h3 h4 => exact Reads.tuple (kp _ _ h1) h2 h3 (ReadsAll.kept0 kp ks _ h4)
theorem ReadsAll.kept0 {h h' : Heap} (kp : ∀ b o, h.get? b = some o → h'.get? b = some o) : ∀ (ks : List NestedKey) (us : List Value), ReadsAll h us (NestedKey.datas ks) [] → ReadsAll h' us (NestedKey.datas ks) []
  | [], _, r => by
    have r' : ReadsAll h _ [] [] := r
    cases r'
    exact ReadsAll.nil
  | k :: ks, us, r => by
    have r' : ReadsAll h us (k.data :: NestedKey.datas ks) [] := r
    generalize hz : ([] : List Addr) = z at r'
    cases r' with
    | @cons v vs d ds as bs h1 h2 =>
      have e1 : as = [] := (List.append_eq_nil_iff.mp hz.symm).1
      have e2 : bs = [] := (List.append_eq_nil_iff.mp hz.symm).2
      subst e1 e2
      exact ReadsAll.cons (Reads.kept0 kp k _ h1) (ReadsAll.kept0 kp ks _ h2)
end
end
section
variable {X : Cx}
/-- list(d) -/
theorem call_list_dN (hc : X.calm = true) : CallR X (.type "list") (fun xs H Q => ∃ d kvs, xs = [V.ref d] ∧ Rd H d (dN X.w d kvs) ∧ ∀ p, H p = none → Q (.ref p) (upd H p (.lst (kvs.map fun x => V.ref x.2.1)))) := by
  intro pn s σ H xs us Q I r h
  obtain ⟨d, kvs, rfl, hd, q⟩ := h
  obtain ⟨u, rfl, rx⟩ := r.one
  cases rx
  obtain ⟨⟨z, hs, ks, rel, o, es, ep, ho, hx, hdt, he, _⟩, _⟩ := (show ObjOk X.prog X.w H s.heap d (dN X.w d kvs) from hd.ok I.hok)
  have l1 : es.toList.length = ks.length := by rw [he, List.length_map]
  rw [Array.length_toList] at l1
  have l2 : kvs.length = ks.length := Paired.length rel
  refine PySem.W.kdl_call (kdl_raw hs hx hdt) (I.ok.hd hc) ho (by omega) fun h' tk acc' c' kp e it => ?_
  have ent : ∀ (j : Nat) (en : DictEntry), es[j]? = some en → ∃ x : NE, kvs[j]? = some x ∧ en.key = Value.ref x.2.1 := by
    intro j en hj
    rw [← Array.getElem?_toList, he, List.getElem?_map] at hj
    obtain ⟨b, hb, eb⟩ := Option.map_eq_some_iff.mp hj
    have hjl : j < kvs.length := by rw [l2]; exact (List.getElem?_eq_some_iff.mp hb).1
    obtain ⟨u, hu, _⟩ := nr_get rel (List.getElem?_eq_getElem hjl)
    rw [hb] at hu
    refine ⟨_, List.getElem?_eq_getElem hjl, ?_⟩
    rw [← eb, Option.some.inj hu]
    all_goals rfl
  have ea : acc'.toList = (kvs.map fun x => x.2.1).map Value.ref := by
    have hl : acc'.toList.length = kvs.length := by rw [Array.length_toList, it.1]; omega
    apply List.ext_getElem?
    intro j
    rw [List.getElem?_map, List.getElem?_map]
    cases hj : acc'.toList[j]? with
    | none =>
      have h1 := List.getElem?_eq_none_iff.mp hj
      rw [List.getElem?_eq_none (by omega)]
      all_goals rfl
    | some v =>
      obtain ⟨en, hen, hv⟩ := it.2 j v (by rw [← Array.getElem?_toList]; exact hj)
      obtain ⟨x, hx', hk⟩ := ent j en hen
      rw [hx', hv, hk]
      all_goals rfl
  have rv : Vals ((kvs.map fun x => x.2.1).map V.ref) acc'.toList := by rw [ea]; exact vals_refs _
  have em : ((kvs.map fun x => x.2.1).map V.ref) = kvs.map fun x => V.ref x.2.1 := by rw [List.map_map]; all_goals rfl
  rw [em] at rv
  refine ⟨.ref s.heap.objs.size, _, I.laid (t' := tk) (o := .lst (kvs.map fun x => V.ref x.2.1)) kp (Nat.le_refl _) ?_, rfl, q _ (I.hok.fresh (Nat.le_refl _))⟩
  exact ⟨by rw [List.length_map]; exact z, acc'.toList, c', rv, by rw [Array.toArray_toList]; exact e⟩

/-! ### sorted(d.items()) -/
mutual
theorem key_depth : ∀ k : NestedKey, k.data.depth = k.depth
  | .none => rfl
  | .num _ => rfl
  | .text _ => rfl
  | .tup ks => by
    show PyData.depth (.tuple (NestedKey.datas ks)) = _
    simp only [PyData.depth, NestedKey.depth, keys_depth ks]
theorem keys_depth : ∀ ks : List NestedKey, PyData.depthAll (NestedKey.datas ks) = NestedKey.depthAll ks
  | [] => rfl
  | k :: ks => by
    show PyData.depthAll (k.data :: NestedKey.datas ks) = _
    simp only [PyData.depthAll, NestedKey.depthAll, key_depth k, keys_depth ks]
end
/-- the pairs of a dict whose values are ints -/
abbrev NI := NestedKey × Int
def pairK (x : NI) : NestedKey := .tup [x.1, .num x.2]
/-- d's pairs in their order, the places of the keys left out -/
def IntsN (kvs : List NE) (m : List NI) : Prop := kvs.map (fun x => (x.1, x.2.2)) = m.map fun x => (x.1, V.int x.2)
def rItemsN (w : World) : V → List V → Hp → VK → Prop := fun x xs H Q => ∃ (a : Addr) (kvs : List NE), x = .ref a ∧ xs = [] ∧ Rd H a (dN w a kvs) ∧ ∀ p, H p = none → Q (.ref p) (upd H p (DX.itemsO p a))
theorem mt_itemsN : MtR X "dict.items" (rItemsN X.w) := by
  intro pn s σ H x xs v us Q I rx rxs h
  obtain ⟨a, kvs, rfl, rfl, ha, q⟩ := h
  cases rx
  cases rxs
  obtain ⟨⟨z, hd, xs', rel, o, es, ep, ho, hx, hdat, _⟩, _⟩ := (show ObjOk X.prog X.w H s.heap a (dN X.w a kvs) from ha.ok I.hok)
  refine DT.callItems (es := es) (ep := ep) hd ⟨o, ho, hx, hdat⟩ ?_
  exact ⟨.ref s.heap.objs.size, _, I.laid (t' := s.toks) (fun b u e => Heap.get?_push_of_some _ e) (Nat.le_refl _) (DX.itemsO_ok (Heap.get?_push_size _ rfl)), rfl, q _ (I.hok.fresh (Nat.le_refl _))⟩
/-- sorted(d.items()), the values ints, the keys of one kind: the pairs, rising -/
def rSortN (K : PySem.W.Frag) (w : World) : List V → Hp → VK → Prop := fun vs H Q => ∃ (p a : Addr) (kvs : List NE) (m : List NI), vs = [.ref p] ∧ H p = some (DX.itemsO p a) ∧ Rd H a (dN w a kvs) ∧ KeysN K H kvs ∧ IntsN kvs m ∧
  (∀ x ∈ m, ∀ y ∈ m, PySem.W.alike x.1.data y.1.data = true) ∧
  ∀ (H' : Hp) (l : Addr) (xs : List V), (∀ b o, H b = some o → H' b = some o) → H' l = some (.lst xs) → KeyVs K H' ((m.mergeSort (PySem.W.dataLe false fun x => (pairK x).data)).map pairK) xs → Q (.ref l) H'
theorem ints_len {kvs : List NE} {m : List NI} (h : IntsN kvs m) : kvs.length = m.length := by
  have := congrArg List.length h
  simpa using this
theorem ints_at {kvs : List NE} {m : List NI} (h : IntsN kvs m) {j : Nat} {x : NE} (e : kvs[j]? = some x) : ∃ c, m[j]? = some (x.1, c) ∧ x.2.2 = V.int c := by
  have q : (kvs.map fun x => (x.1, x.2.2))[j]? = (m.map fun x => (x.1, V.int x.2))[j]? := by rw [h]
  rw [List.getElem?_map, List.getElem?_map, e] at q
  cases hm : m[j]? with
  | none => rw [hm] at q; cases q
  | some y =>
    rw [hm] at q
    have q2 : (x.1, x.2.2) = (y.1, V.int y.2) := Option.some.inj q
    obtain ⟨q3, q4⟩ := Prod.mk.inj q2
    exact ⟨y.2, by rw [q3], q4⟩
theorem each_of {α β : Type} {R : α → β → Prop} : ∀ {as : List α} {bs : List β}, as.length = bs.length → (∀ (j : Nat) (a : α) (b : β), as[j]? = some a → bs[j]? = some b → R a b) → PySem.W.EachIs R as bs
  | [], [], _, _ => .nil
  | a :: as, b :: bs, hl, h => .cons (h 0 a b rfl rfl) (each_of (by simpa using hl) fun j x y hx hy => h (j + 1) x y hx hy)
  | [], _ :: _, hl, _ => by simp at hl
  | _ :: _, [], hl, _ => by simp at hl
/-- the places of the items -/
theorem each_addr {β : Type} {T : Addr → β → Prop} : ∀ {vs : List Value} {bs : List β}, PySem.W.EachIs (fun v y => ∃ b : Addr, v = .ref b ∧ T b y) vs bs → ∃ cs : List Addr, vs = cs.map Value.ref ∧ PySem.W.EachIs T cs bs
  | _, _, .nil => ⟨[], rfl, .nil⟩
  | _, _, .cons ⟨c, e, hc⟩ t => by
    obtain ⟨cs, ecs, ht⟩ := each_addr t
    exact ⟨c :: cs, by rw [e, ecs]; rfl, .cons hc ht⟩
theorem each_keys {K : PySem.W.Frag} {H : Hp} {β : Type} (f : β → NestedKey) : ∀ {cs : List Addr} {bs : List β}, PySem.W.EachIs (fun c y => KeyV K H (f y) (.ref c)) cs bs → KeyVs K H (bs.map f) (cs.map V.ref)
  | _, _, .nil => .nil
  | _, _, .cons h t => .cons h (each_keys f t)
end
section
variable {X : Cx}
theorem cr_sortN (hc : X.calm = true) (hu : X.A.units + 64 < cLine) : CallR X (.builtin "sorted") (rSortN X.K X.w) := by
  intro pn s σ H xs us Q I r h
  obtain ⟨p, a, kvs, m, rfl, hp, ha, ks, hm, al, q⟩ := h
  obtain rfl := Vals.ref1 r
  have view : s.heap.IsItemsView p a := (show ObjOk X.prog X.w H s.heap p (DX.itemsO p a) from I.hok p _ hp).1
  obtain ⟨⟨z, hd, xs', rel, o, es, ep, ho, hx, hdat, he, _⟩, _⟩ := (show ObjOk X.prog X.w H s.heap a (dN X.w a kvs) from ha.ok I.hok)
  have l1 : es.toList.length = xs'.length := by rw [he, List.length_map]
  rw [Array.length_toList] at l1
  have l2 : kvs.length = xs'.length := Paired.length rel
  have l3 := ints_len hm
  refine DT.sortedI (es := es) (ep := ep) (I.ok.hd hc) view ⟨o, ho, hx, hdat⟩ (by omega) fun h' tk as hk hlt hl hG => ?_
  have nd : as.Nodup := List.Pairwise.imp (fun h => Nat.ne_of_lt h) hG.rise
  have lam : as.length = m.length := by omega
  -- each pair that was made
  have pr : ∀ (j : Nat) (b : Addr) (y : NI), as[j]? = some b → m[j]? = some y → ∃ (kq : Addr) (t : Tok), KeyV X.K H y.1 (.ref kq) ∧ y.1.depth ≤ 8 ∧ h'.get? b = some { cls := .type "tuple", data := .seq #[Value.ref kq, Value.int y.2 t] } := by
    intro j b y hj hy
    obtain ⟨en, hen, hg⟩ := hG.pairs j b hj
    have hjl : j < kvs.length := by rw [l3]; exact (List.getElem?_eq_some_iff.mp hy).1
    have hkv : kvs[j]? = some kvs[j] := List.getElem?_eq_getElem hjl
    obtain ⟨u, hxu, ru⟩ := nr_get rel hkv
    obtain ⟨c, hc', hv⟩ := ints_at hm hkv
    rw [hy] at hc'
    have ey : y = (kvs[j].1, c) := Option.some.inj hc'
    rw [hv] at ru
    obtain ⟨t, rfl⟩ := ru
    rw [← Array.getElem?_toList, he, List.getElem?_map, hxu] at hen
    have een : entN X.w (kvs[j].1, kvs[j].2.1, Value.int c t) = en := Option.some.inj hen
    obtain ⟨k1, k2⟩ := ks _ (List.getElem_mem hjl)
    refine ⟨kvs[j].2.1, t, by rw [ey]; exact k1, by rw [ey]; exact k2, ?_⟩
    rw [hg, ← een, ey]
    all_goals rfl
  have hob : (h'.push { cls := .type "list", data := .seq (as.map Value.ref).toArray }).get? h'.objs.size = some (seqObj "list" (as.map Value.ref).toArray 0) := Heap.get?_push_size _ rfl
  have ka : ∀ b o, h'.get? b = some o → (h'.push { cls := .type "list", data := .seq (as.map Value.ref).toArray }).get? b = some o := fun b o e => Heap.get?_push_of_some _ e
  have ne0 : ∀ b o, h'.get? b = some o → b ≠ h'.objs.size := fun b o e => Nat.ne_of_lt (Heap.lt_size e)
  generalize hh2 : h'.push { cls := .type "list", data := .seq (as.map Value.ref).toArray } = h2 at hob ka ⊢
  have kb : ∀ b o, s.heap.get? b = some o → h2.get? b = some o := fun b o e => ka b o (hk b o e)
  -- what an item stands for
  let Rt : Value → NI → Prop := fun v y => ∃ (j : Nat) (b : Addr), v = .ref b ∧ as[j]? = some b ∧ m[j]? = some y
  have e1 : PySem.W.EachIs Rt (as.map Value.ref) m := each_of (by rw [List.length_map]; exact lam) fun j v y hv hy => by
    rw [List.getElem?_map] at hv
    obtain ⟨b, hb, rfl⟩ := Option.map_eq_some_iff.mp hv
    exact ⟨j, b, rfl, hb, hy⟩
  have e2 : PySem.W.EachIs (fun v y => ∃ as', Reads h2 v (pairK y).data as' ∧ h'.objs.size ∉ as') (as.map Value.ref) m := e1.mono fun v y ⟨j, b, ev, hb, hy⟩ => by
    obtain ⟨kq, t, k1, k2, hg⟩ := pr j b y hb hy
    subst ev
    have r1 : Reads h2 (.ref kq) y.1.data [] := Reads.kept0 kb y.1 _ (k1.reads I _ _ _ rfl)
    have r2 : ReadsAll h2 [Value.ref kq, Value.int y.2 t] [y.1.data, .int y.2] [] := ReadsAll.cons r1 (ReadsAll.cons (Reads.int y.2 t) ReadsAll.nil)
    exact ⟨[], Reads.tuple (ka _ _ hg) rfl rfl r2, by simp⟩
  have hal : PySem.W.AllAlike (m.map fun x => (pairK x).data) := by
    intro d1 h1 d2 h2'
    obtain ⟨y1, m1, rfl⟩ := List.mem_map.mp h1
    obtain ⟨y2, m2, rfl⟩ := List.mem_map.mp h2'
    show PySem.W.alike (.tuple [y1.1.data, .int y1.2]) (.tuple [y2.1.data, .int y2.2]) = true
    simp only [PySem.W.alike, PySem.W.alikeAll, al y1 m1 y2 m2, Bool.and_self]
  have dep : ∀ y ∈ m, (pairK y).data.depth ≤ 9 := by
    intro y hy
    obtain ⟨j, hj⟩ := List.mem_iff_getElem?.mp hy
    have hjl : j < as.length := by rw [lam]; exact (List.getElem?_eq_some_iff.mp hj).1
    obtain ⟨_, _, _, k2, _⟩ := pr j _ y (List.getElem?_eq_getElem hjl) hj
    have e : ∀ k : NestedKey, k.data.depth = k.depth := key_depth
    show (PyData.tuple [y.1.data, .int y.2]).depth ≤ 9
    simp only [PyData.depth, PyData.depthAll, e]
    omega
  refine PySem.W.list_sort_data (s := { s with heap := h2, toks := tk }) hob e1 e2 hal (PySem.W.Sortable.tuples fun y => ⟨_, _, rfl⟩) (by omega) (fun y hy => ?_) fun out ol oe => ?_
  · have := dep y hy
    rw [Around.in1_units]
    omega
  · show EP X pn σ Q (.ref h'.objs.size) { s with heap := sortedHeap h2 h'.objs.size (as.map Value.ref) out.toArray, toks := tk }
    have kF : ∀ b o, b ≠ h'.objs.size → h2.get? b = some o → (sortedHeap h2 h'.objs.size (as.map Value.ref) out.toArray).get? b = some o := fun b o hb e => (PyProof.Rows.sortedHeap_old hb (Heap.lt_size e)).trans e
    have kS : ∀ b o, s.heap.get? b = some o → (sortedHeap h2 h'.objs.size (as.map Value.ref) out.toArray).get? b = some o := fun b o e => kF b o (ne0 _ _ (hk b o e)) (kb b o e)
    obtain ⟨eF, heF⟩ := PyProof.Rows.sortedHeap_at (vs := as.map Value.ref) (out := out.toArray) hob
    generalize hF : sortedHeap h2 h'.objs.size (as.map Value.ref) out.toArray = hf at kF kS heF ⊢
    have I1 : Inv X pn σ H { s with heap := hf, toks := tk } := I.kept (t' := tk) kS
    have hn0 : H h'.objs.size = none := I.hok.fresh (Nat.le_of_lt hlt)
    obtain ⟨cs, ecs, ecm⟩ := each_addr (T := fun b y => ∃ j : Nat, as[j]? = some b ∧ m[j]? = some y) (oe.mono fun v y ⟨j, b, ev, hb, hy⟩ => ⟨b, ev, j, hb, hy⟩)
    have lcs : cs.length = m.length := by rw [ecm.length, List.length_mergeSort]
    have I2 : Inv X pn σ (upd H h'.objs.size (.lst (cs.map V.ref))) { s with heap := hf, toks := tk } :=
      I1.take (h' := hf) (t' := tk) (fun b ob _ e => e) (I.fpOk (Nat.le_of_lt hlt) hn0) ⟨by rw [List.length_map]; omega, out, eF, by rw [ecs]; exact vals_refs _, heF⟩
    obtain ⟨H2, I3, g, qt⟩ := DX.takeT (P := fun b vs => ∃ (j : Nat) (y : NI) (kq : Addr), as[j]? = some b ∧ m[j]? = some y ∧ vs = [.ref kq, .int y.2] ∧ KeyV X.K H y.1 (.ref kq)) I as _ I2 nd fun b hb => by
      obtain ⟨j, hj⟩ := List.mem_iff_getElem?.mp hb
      have hjl : j < m.length := by rw [← lam]; exact (List.getElem?_eq_some_iff.mp hj).1
      have hy : m[j]? = some m[j] := List.getElem?_eq_getElem hjl
      obtain ⟨kq, t, k1, _, hg⟩ := pr j b _ hj hy
      have hbl : s.heap.objs.size ≤ b := Nat.le_of_lt (hG.above b hb)
      refine ⟨hbl, ?_, [.ref kq, .int m[j].2], ⟨j, m[j], kq, hj, hy, rfl, k1⟩, fun H3 => ⟨(by rw [sizeLine_eq]; show 2 ≤ 16777216; omega), [Value.ref kq, Value.int m[j].2 t], .cons rfl (.cons ⟨t, rfl⟩ .nil), ⟨_, kF _ _ (ne0 _ _ hg) (ka _ _ hg), rfl, 0, rfl⟩⟩⟩
      rw [upd_ne (ne0 _ _ hg)]
      exact I.hok.fresh hbl
    have gr : ∀ b o, H b = some o → H2 b = some o := fun b o e => g b o (by rw [upd_ne (ne_of_none e hn0)]; exact e)
    refine ⟨.ref h'.objs.size, H2, I3, rfl, q H2 h'.objs.size (cs.map V.ref) gr (g _ _ upd_same) (each_keys pairK (ecm.mono fun b y ⟨j, hb, hy⟩ => ?_))⟩
    obtain ⟨vs, ⟨j', y', kq, j1, j2, ev, k1⟩, hH⟩ := qt b (List.mem_of_getElem? hb)
    have eij : j = j' := (List.getElem?_inj (List.getElem?_eq_some_iff.mp hb).1 nd).mp (hb.trans j1.symm)
    subst eij
    have ee : y' = y := Option.some.inj (j2.symm.trans hy)
    rw [ee] at ev k1
    rw [ev] at hH
    exact .tup hH (.cons (k1.up (Tups.ext gr) _ _) (.cons (.int y.2) .nil))
end
/-- d.items(), a view -/
def tNItems (w : World) (td : TE) : TE := fun σ H Q => td σ H fun x G => ∃ (d : Addr) (kvs : List NE), x = .ref d ∧ Rd G d (dN w d kvs) ∧ ∀ p, G p = none → Q (.ref p) (upd G p (DX.itemsO p d))
theorem pe_nitemsV {X : Cx} {e : Expr} {td : TE} {ap cp : Pos} (he : PE X e td) (hbase : attributeBase e "items" X.env (eval e X.env) = eval e X.env := by rfl) (hline : (ap.endLine == cp.line) = true := by rfl) :
    PE X (.Call (.Attribute e "items" ap) [] [] cp) (tNItems X.w td) := ⟨fun pn s τ H Q I h => by
  refine wpAny_Call_method (T := "dict") (id := "dict.items") hbase rfl hline F.plainAttrs_dict F.slot_dict_items F.type_dict_items (thn (he.run pn s τ H _ I h) fun u s1 ⟨x, G, I1, rx, d, kvs, ex, hd, q⟩ => ?_)
  subst ex
  obtain rfl : u = Value.ref d := rx
  obtain ⟨⟨z, hs, xs', rel, o, es, ep, ho, hx, hdat, _⟩, _⟩ := (show ObjOk X.prog X.w G s1.heap d (dN X.w d kvs) from hd.ok I1.hok)
  have raw : s1.heap.DictRaw d es ep := ⟨o, ho, hx, hdat⟩
  refine ⟨raw.typeIs, fun b q => ?_, ?_⟩
  · cases q
    exact ⟨o, ho, hx.2.1⟩
  show wpAny _ _ (callWith cp (.builtin "dict.items") [.ref d] [] []) _ X.xe s1
  refine method_meetsIn F.slot_dict_items F.entry_dict_items rfl (PySem.evalArgs_none ⟨rfl, raw.typeIs, F.args_dict_items_1 _, _, meets_dict_items_raw d hs, ⟨es, ep, raw⟩, ?_⟩)
  exact ⟨.ref s1.heap.objs.size, _, I1.laid (t' := s1.toks) (fun b u e => Heap.get?_push_of_some _ e) (Nat.le_refl _) (DX.itemsO_ok (Heap.get?_push_size _ rfl)), rfl, q _ (I1.hok.fresh (Nat.le_refl _))⟩⟩
end K1D

set_option Elab.async false
set_option linter.all false
set_option maxRecDepth 100000
set_option maxHeartbeats 4000000
/-! Dicts of nested keys whose values are ints, and lists of such pairs. Speaks of no program. -/
namespace K1D
open PySem PySem.Spec PyProof.Rows L2
def valI (m : List NI) (k : NestedKey) : Option Int := (m.find? fun x => decide (x.1 = k)).map (·.2)
def putI (m : List NI) (k : NestedKey) (c : Int) : List NI := if (valI m k).isSome then m.map fun x => if x.1 = k then (x.1, c) else x else m ++ [(k, c)]
def dropI (m : List NI) (k : NestedKey) : List NI := m.filter fun x => decide (x.1 ≠ k)
def keysI (m : List NI) : List NestedKey := m.map (·.1)
theorem ints_nil {m : List NI} (h : IntsN [] m) : m = [] := by
  cases m with
  | nil => rfl
  | cons x r => cases h
theorem ints_cons {x : NE} {kvs : List NE} {m : List NI} (h : IntsN (x :: kvs) m) : ∃ c r, m = (x.1, c) :: r ∧ x.2.2 = V.int c ∧ IntsN kvs r := by
  cases m with
  | nil => cases h
  | cons y r =>
    have h' : (x.1, x.2.2) :: kvs.map (fun x => (x.1, x.2.2)) = (y.1, V.int y.2) :: r.map fun x => (x.1, V.int x.2) := h
    injection h' with h1 h2
    obtain ⟨h3, h4⟩ := Prod.mk.inj h1
    exact ⟨y.2, r, by rw [h3], h4, h2⟩
theorem ints_mk {x : NE} {kvs : List NE} {c : Int} {m : List NI} (e : x.2.2 = V.int c) (h : IntsN kvs m) : IntsN (x :: kvs) ((x.1, c) :: m) := by
  show (x.1, x.2.2) :: kvs.map (fun x => (x.1, x.2.2)) = (x.1, V.int c) :: m.map fun x => (x.1, V.int x.2)
  rw [e, show kvs.map (fun x => (x.1, x.2.2)) = m.map fun x => (x.1, V.int x.2) from h]
theorem ints_val : ∀ {kvs : List NE} {m : List NI}, IntsN kvs m → ∀ k, valN kvs k = (valI m k).map V.int
  | [], m, h, k => by rw [ints_nil h]; rfl
  | x :: kvs, m, h, k => by
    obtain ⟨c, r, rfl, e, t⟩ := ints_cons h
    have ih := ints_val t k
    unfold valN valI at *
    rw [List.find?_cons, List.find?_cons]
    by_cases z : x.1 = k
    · rw [decide_eq_true z]
      simp [e]
    · rw [decide_eq_false z]
      exact ih
theorem ints_repl (k : NestedKey) (c : Int) : ∀ {kvs : List NE} {m : List NI}, IntsN kvs m → IntsN (kvs.map fun x => if x.1 = k then (x.1, x.2.1, V.int c) else x) (m.map fun x => if x.1 = k then (x.1, c) else x)
  | [], m, h => by rw [ints_nil h]; rfl
  | x :: kvs, m, h => by
    obtain ⟨c', r, rfl, e, t⟩ := ints_cons h
    rw [List.map_cons, List.map_cons]
    by_cases z : x.1 = k
    · rw [if_pos z, if_pos (show ((x.1, c') : NI).1 = k from z)]
      exact ints_mk (x := (x.1, x.2.1, V.int c)) rfl (ints_repl k c t)
    · rw [if_neg z, if_neg (show ¬ ((x.1, c') : NI).1 = k from z)]
      exact ints_mk e (ints_repl k c t)
theorem ints_app : ∀ {kvs ls : List NE} {m n : List NI}, IntsN kvs m → IntsN ls n → IntsN (kvs ++ ls) (m ++ n) := fun {kvs ls m n} h g => by
  show (kvs ++ ls).map _ = (m ++ n).map _
  rw [List.map_append, List.map_append]
  exact congr (congrArg _ h) g
theorem ints_put {kvs : List NE} {m : List NI} (h : IntsN kvs m) (k : NestedKey) (b : Addr) (c : Int) : IntsN (putN kvs k b (.int c)) (putI m k c) := by
  unfold putN putI
  rw [ints_val h k, Option.isSome_map]
  split
  · exact ints_repl k c h
  · exact ints_app h (ints_mk (x := (k, b, V.int c)) rfl rfl)
theorem ints_drop (k : NestedKey) : ∀ {kvs : List NE} {m : List NI}, IntsN kvs m → IntsN (dropN kvs k) (dropI m k)
  | [], m, h => by rw [ints_nil h]; rfl
  | x :: kvs, m, h => by
    obtain ⟨c, r, rfl, e, t⟩ := ints_cons h
    unfold dropN dropI
    rw [List.filter_cons, List.filter_cons]
    by_cases z : x.1 = k
    · rw [if_neg (by simp [z]), if_neg (by simp [z])]
      exact ints_drop k t
    · rw [if_pos (by simp [z]), if_pos (by simp [z])]
      exact ints_mk e (ints_drop k t)
/-! ### the lists alone -/
theorem valI_nil (k : NestedKey) : valI [] k = none := rfl
theorem valI_cons (x : NI) (m : List NI) (k : NestedKey) : valI (x :: m) k = if x.1 = k then some x.2 else valI m k := by
  unfold valI
  rw [List.find?_cons]
  by_cases z : x.1 = k
  · rw [decide_eq_true z, if_pos z]; rfl
  · rw [decide_eq_false z, if_neg z]
theorem valI_none {m : List NI} {k : NestedKey} : valI m k = none ↔ k ∉ keysI m := by
  induction m with
  | nil => simp [valI, keysI]
  | cons x m ih =>
    rw [valI_cons]
    unfold keysI at *
    rw [List.map_cons, List.mem_cons]
    by_cases z : x.1 = k
    · rw [if_pos z]; simp [z]
    · rw [if_neg z, ih]
      constructor
      · intro h q
        rcases q with q | q
        · exact z q.symm
        · exact h q
      · intro h q
        exact h (.inr q)
theorem valI_mem {m : List NI} (nd : (keysI m).Nodup) {k : NestedKey} {c : Int} : valI m k = some c ↔ (k, c) ∈ m := by
  induction m with
  | nil => simp [valI]
  | cons x m ih =>
    have nd' : x.1 ∉ keysI m ∧ (keysI m).Nodup := List.nodup_cons.mp nd
    rw [valI_cons, List.mem_cons]
    by_cases z : x.1 = k
    · rw [if_pos z]
      constructor
      · intro h
        exact .inl (Prod.ext z.symm (Option.some.inj h).symm)
      · intro h
        rcases h with h | h
        · rw [← h]
        · exact absurd (show x.1 ∈ keysI m from by rw [z]; exact List.mem_map.mpr ⟨_, h, rfl⟩) nd'.1
    · rw [if_neg z, ih nd'.2]
      constructor
      · exact .inr
      · intro h
        rcases h with h | h
        · exact absurd (by rw [← h]) z
        · exact h
theorem valI_put (m : List NI) (k : NestedKey) (c : Int) (j : NestedKey) : valI (putI m k c) j = if j = k then some c else valI m j := by
  unfold putI
  by_cases s : (valI m k).isSome = true
  · rw [if_pos s]
    have key : ∀ l : List NI, (valI l k).isSome = true ∨ j ≠ k → valI (l.map fun x => if x.1 = k then (x.1, c) else x) j = if j = k then some c else valI l j := by
      intro l
      induction l with
      | nil =>
        intro h
        rcases h with h | h
        · cases h
        · rw [if_neg h]; rfl
      | cons x l ih =>
        intro h
        rw [List.map_cons, valI_cons, valI_cons]
        by_cases z : x.1 = k
        · rw [if_pos z]
          by_cases y : j = k
          · rw [if_pos y, if_pos (by rw [z, y])]
          · rw [if_neg y, if_neg (by rw [z]; exact fun q => y q.symm), if_neg (by rw [z]; exact fun q => y q.symm), ih (.inr y), if_neg y]
        · rw [if_neg z]
          by_cases y : j = k
          · rw [if_pos y, if_neg (by rw [y]; exact z), ih (by
              rw [valI_cons, if_neg z] at h
              exact h), if_pos y]
          · rw [if_neg y]
            by_cases u : x.1 = j
            · rw [if_pos u, if_pos u]
            · rw [if_neg u, if_neg u, ih (.inr y), if_neg y]
    exact key m (.inl s)
  · rw [if_neg s]
    have sn : valI m k = none := by
      cases h : valI m k with
      | none => rfl
      | some v => rw [h] at s; exact absurd rfl s
    have key : ∀ l : List NI, valI (l ++ [(k, c)]) j = (valI l j).or (if j = k then some c else none) := by
      intro l
      induction l with
      | nil =>
        rw [List.nil_append, valI_cons]
        by_cases y : j = k
        · rw [if_pos y, if_pos (show ((k, c) : NI).1 = j from y.symm)]; rfl
        · rw [if_neg y, if_neg (show ¬ ((k, c) : NI).1 = j from fun q => y q.symm)]; rfl
      | cons x l ih =>
        rw [List.cons_append, valI_cons, valI_cons]
        by_cases u : x.1 = j
        · rw [if_pos u, if_pos u]; rfl
        · rw [if_neg u, if_neg u, ih]
    rw [key m]
    by_cases y : j = k
    · rw [if_pos y, if_pos y, y, sn]; rfl
    · rw [if_neg y, if_neg y]
      cases valI m j <;> rfl
theorem valI_drop (m : List NI) (k j : NestedKey) : valI (dropI m k) j = if j = k then none else valI m j := by
  induction m with
  | nil => rw [show dropI [] k = [] from rfl, valI_nil]; split <;> rfl
  | cons x m ih =>
    unfold dropI at *
    rw [List.filter_cons]
    by_cases z : x.1 = k
    · rw [if_neg (by simp [z]), ih, valI_cons]
      by_cases y : j = k
      · rw [if_pos y, if_pos y]
      · rw [if_neg y, if_neg y, if_neg (by rw [z]; exact fun q => y q.symm)]
    · rw [if_pos (by simp [z]), valI_cons, valI_cons, ih]
      by_cases y : j = k
      · rw [if_pos y, if_pos y, if_neg (by rw [y]; exact z)]
      · rw [if_neg y, if_neg y]
theorem keysI_put (m : List NI) (k : NestedKey) (c : Int) : keysI (putI m k c) = if (valI m k).isSome then keysI m else keysI m ++ [k] := by
  unfold putI keysI
  split
  · rw [List.map_map]
    refine List.map_congr_left fun x hx => ?_
    show (if x.1 = k then (x.1, c) else x).1 = x.1
    split <;> rfl
  · rw [List.map_append]; rfl
theorem nodup_put {m : List NI} (nd : (keysI m).Nodup) (k : NestedKey) (c : Int) : (keysI (putI m k c)).Nodup := by
  rw [keysI_put]
  split
  · exact nd
  · rename_i h
    refine List.nodup_append.mpr ⟨nd, by simp, fun a ha b hb => ?_⟩
    rw [List.mem_singleton] at hb
    subst hb
    rintro rfl
    have : valI m a = none := by
      cases q : valI m a with
      | none => rfl
      | some v => rw [q] at h; exact absurd rfl h
    exact valI_none.mp this ha
theorem nodup_drop {m : List NI} (nd : (keysI m).Nodup) (k : NestedKey) : (keysI (dropI m k)).Nodup := nd.sublist (List.filter_sublist.map _)
theorem len_put (m : List NI) (k : NestedKey) (c : Int) : (putI m k c).length ≤ m.length + 1 := by
  unfold putI
  split
  · rw [List.length_map]; omega
  · rw [List.length_append]; exact Nat.le_refl _
theorem len_drop (m : List NI) (k : NestedKey) : (dropI m k).length ≤ m.length := List.length_filter_le _ _
/-- at d a dict, its pairs m in their order -/
def DictI (K : PySem.W.Frag) (w : World) (H : Hp) (d : Addr) (m : List NI) : Prop := ∃ kvs : List NE, H d = some (dN w d kvs) ∧ KeysN K H kvs ∧ IntsN kvs m ∧ (keysI m).Nodup
theorem DictI.up {K : PySem.W.Frag} {w : World} {H H' : Hp} {d : Addr} {m : List NI} (h : DictI K w H d m) (e : ∀ a o, H a = some o → H' a = some o) : DictI K w H' d m :=
  let ⟨kvs, h1, h2, h3⟩ := h; ⟨kvs, e _ _ h1, h2.up (Tups.ext e), h3⟩
/-- keys and values of m, all keys of one kind -/
theorem keysN_mem {K : PySem.W.Frag} {H : Hp} {kvs : List NE} {m : List NI} (ks : KeysN K H kvs) (h : IntsN kvs m) {j : Nat} {y : NI} (hy : m[j]? = some y) : ∃ e, kvs[j]? = some e ∧ e.1 = y.1 ∧ e.2.2 = V.int y.2 ∧ KeyV K H y.1 (.ref e.2.1) ∧ y.1.depth ≤ 8 := by
  have hl := ints_len h
  have hj : j < kvs.length := by rw [hl]; exact (List.getElem?_eq_some_iff.mp hy).1
  have hk : kvs[j]? = some kvs[j] := List.getElem?_eq_getElem hj
  obtain ⟨c, hc, hv⟩ := ints_at h hk
  rw [hy] at hc
  have e : y = (kvs[j].1, c) := Option.some.inj hc
  obtain ⟨k1, k2⟩ := ks _ (List.getElem_mem hj)
  exact ⟨_, hk, by rw [e], by rw [e]; exact hv, by rw [e]; exact k1, by rw [e]; exact k2⟩
end K1D

set_option Elab.async false
set_option linter.all false
/-! Numbers written to a radix: digits from the lowest, split by division. Speaks of no program. -/
namespace K2P
/-- the number of these digits to the radix r, the lowest first -/
def numD (r : Nat) : List Nat → Nat
  | [] => 0
  | d :: ds => d + r * numD r ds
theorem numD_app (r : Nat) : ∀ (a b : List Nat), numD r (a ++ b) = numD r a + r ^ a.length * numD r b
  | [], b => by simp [numD]
  | d :: a, b => by
    show d + r * numD r (a ++ b) = d + r * numD r a + r ^ (a.length + 1) * numD r b
    rw [numD_app r a b, Nat.pow_succ, Nat.mul_add, Nat.add_assoc, ← Nat.mul_assoc, Nat.mul_comm r (r ^ a.length)]
theorem numD_lt {r : Nat} : ∀ {ds : List Nat}, (∀ d ∈ ds, d < r) → numD r ds < r ^ ds.length
  | [], _ => by simp [numD]
  | d :: ds, h => by
    have h1 := h d (List.mem_cons_self ..)
    have h2 := numD_lt (ds := ds) fun x hx => h x (List.mem_cons_of_mem _ hx)
    show d + r * numD r ds < r ^ (ds.length + 1)
    rw [Nat.pow_succ]
    have h3 : r * (numD r ds + 1) ≤ r * r ^ ds.length := Nat.mul_le_mul_left r h2
    rw [Nat.mul_add, Nat.mul_one] at h3
    rw [Nat.mul_comm (r ^ ds.length) r]
    omega
/-- split at k: the low digits are the rest, the high ones the quotient -/
theorem numD_mod {r : Nat} {ds : List Nat} (h : ∀ d ∈ ds, d < r) {k : Nat} (hk : k ≤ ds.length) : numD r ds % r ^ k = numD r (ds.take k) := by
  have e : numD r ds = numD r (ds.take k) + r ^ k * numD r (ds.drop k) := by
    have := numD_app r (ds.take k) (ds.drop k)
    rw [List.take_append_drop, List.length_take, Nat.min_eq_left hk] at this
    exact this
  have lt : numD r (ds.take k) < r ^ k := by
    have := numD_lt (r := r) (ds := ds.take k) fun d hd => h d (List.mem_of_mem_take hd)
    rwa [List.length_take, Nat.min_eq_left hk] at this
  rw [e, Nat.add_mul_mod_self_left, Nat.mod_eq_of_lt lt]
theorem numD_div {r : Nat} {ds : List Nat} (h : ∀ d ∈ ds, d < r) {k : Nat} (hk : k ≤ ds.length) (hr : 0 < r) : numD r ds / r ^ k = numD r (ds.drop k) := by
  have e : numD r ds = numD r (ds.take k) + r ^ k * numD r (ds.drop k) := by
    have := numD_app r (ds.take k) (ds.drop k)
    rw [List.take_append_drop, List.length_take, Nat.min_eq_left hk] at this
    exact this
  have lt : numD r (ds.take k) < r ^ k := by
    have := numD_lt (r := r) (ds := ds.take k) fun d hd => h d (List.mem_of_mem_take hd)
    rwa [List.length_take, Nat.min_eq_left hk] at this
  rw [e, Nat.add_mul_div_left _ _ (Nat.pow_pos hr), Nat.div_eq_of_lt lt, Nat.zero_add]
/-- one number, one list of digits -/
theorem numD_inj {r : Nat} : ∀ {a b : List Nat}, a.length = b.length → (∀ d ∈ a, d < r) → (∀ d ∈ b, d < r) → numD r a = numD r b → a = b
  | [], [], _, _, _, _ => rfl
  | [], _ :: _, l, _, _, _ => nomatch l
  | _ :: _, [], l, _, _, _ => nomatch l
  | x :: a, y :: b, l, ha, hb, e => by
    have hx := ha x (List.mem_cons_self ..)
    have hy := hb y (List.mem_cons_self ..)
    have e : x + r * numD r a = y + r * numD r b := e
    have e1 : x = y := by
      have := congrArg (· % r) e
      simp only [Nat.add_mul_mod_self_left] at this
      rwa [Nat.mod_eq_of_lt hx, Nat.mod_eq_of_lt hy] at this
    subst e1
    have e2 : numD r a = numD r b := Nat.eq_of_mul_eq_mul_left (Nat.lt_of_le_of_lt (Nat.zero_le _) hx) (Nat.add_left_cancel e)
    rw [numD_inj (Nat.succ.inj l) (fun d hd => ha d (List.mem_cons_of_mem _ hd)) (fun d hd => hb d (List.mem_cons_of_mem _ hd)) e2]
/-- nothing is the number 0's digits but 0 -/
theorem numD_zero {r : Nat} (hr : 0 < r) : ∀ {ds : List Nat}, numD r ds = 0 → ∀ d ∈ ds, d = 0
  | [], _, d, h => nomatch h
  | x :: ds, e, d, h => by
    have e : x + r * numD r ds = 0 := e
    have e1 : x = 0 := by omega
    have e2 : numD r ds = 0 := by
      have : r * numD r ds = 0 := by omega
      exact (Nat.mul_eq_zero.mp this).resolve_left (by omega)
    rcases List.mem_cons.mp h with h | h
    · rw [h, e1]
    · exact numD_zero hr e2 d h
/-- digit by digit a sum, where none passes the radix -/
theorem numD_add (r : Nat) : ∀ {a b : List Nat}, a.length = b.length → numD r a + numD r b = numD r (List.zipWith (· + ·) a b)
  | [], [], _ => rfl
  | [], _ :: _, l => nomatch l
  | _ :: _, [], l => nomatch l
  | x :: a, y :: b, l => by
    show x + r * numD r a + (y + r * numD r b) = (x + y) + r * numD r (List.zipWith (· + ·) a b)
    rw [← numD_add r (Nat.succ.inj l), Nat.mul_add]
    omega
end K2P

set_option Elab.async false
set_option linter.all false
/-! What a table sums up by keys: contributions, products of tables. Speaks of no program. -/
namespace K2P
variable {α β γ : Type} [DecidableEq α] [DecidableEq β] [DecidableEq γ]
/-- the sum of what stands at the key k -/
def tot : List (α × Int) → α → Int
  | [], _ => 0
  | x :: l, k => (if x.1 = k then x.2 else 0) + tot l k
theorem tot_app : ∀ (a b : List (α × Int)) (k : α), tot (a ++ b) k = tot a k + tot b k
  | [], b, k => by show tot b k = 0 + tot b k; omega
  | x :: a, b, k => by
    show _ + tot (a ++ b) k = _ + tot a k + tot b k
    rw [tot_app a b k]
    omega
theorem tot_none : ∀ {l : List (α × Int)} {k : α}, (∀ x ∈ l, x.1 ≠ k) → tot l k = 0
  | [], _, _ => rfl
  | x :: l, k, h => by
    show (if x.1 = k then x.2 else 0) + tot l k = 0
    rw [if_neg (h x (List.mem_cons_self ..)), tot_none fun y hy => h y (List.mem_cons_of_mem _ hy)]
    rfl
/-- the keys renamed one to one -/
theorem tot_ren (f : α → β) : ∀ {l : List (α × Int)} {k : α}, (∀ x ∈ l, f x.1 = f k → x.1 = k) → tot (l.map fun x => (f x.1, x.2)) (f k) = tot l k
  | [], _, _ => rfl
  | x :: l, k, h => by
    show (if f x.1 = f k then x.2 else 0) + tot (l.map fun x => (f x.1, x.2)) (f k) = (if x.1 = k then x.2 else 0) + tot l k
    rw [tot_ren f fun y hy => h y (List.mem_cons_of_mem _ hy)]
    by_cases e : x.1 = k
    · rw [if_pos e, if_pos (by rw [e])]
    · rw [if_neg e, if_neg fun q => e (h x (List.mem_cons_self ..) q)]
/-- term by term -/
def rowL (op : α → β → γ) (x : α × Int) (q : List (β × Int)) : List (γ × Int) := q.map fun y => (op x.1 y.1, x.2 * y.2)
def prodL (op : α → β → γ) (p : List (α × Int)) (q : List (β × Int)) : List (γ × Int) := p.flatMap fun x => rowL op x q
theorem prodL_cons (op : α → β → γ) (x : α × Int) (p : List (α × Int)) (q : List (β × Int)) : prodL op (x :: p) q = rowL op x q ++ prodL op p q := by
  unfold prodL
  rw [List.flatMap_cons]
theorem prodL_app (op : α → β → γ) (a b : List (α × Int)) (q : List (β × Int)) : prodL op (a ++ b) q = prodL op a q ++ prodL op b q := by
  unfold prodL
  rw [List.flatMap_append]
/-- one more term on the right -/
theorem tot_prod_cons (op : α → β → γ) (y : β × Int) (q : List (β × Int)) (k : γ) : ∀ p : List (α × Int), tot (prodL op p (y :: q)) k = tot (p.map fun x => (op x.1 y.1, x.2 * y.2)) k + tot (prodL op p q) k
  | [] => by show (0 : Int) = 0 + 0; rfl
  | x :: p => by
    rw [prodL_cons, prodL_cons, tot_app, tot_app, tot_prod_cons op y q k p]
    show ((if op x.1 y.1 = k then x.2 * y.2 else 0) + tot (rowL op x q) k) + _ = ((if op x.1 y.1 = k then x.2 * y.2 else 0) + _) + _
    omega
/-- turned about -/
theorem tot_prod_comm (op : α → α → γ) (c : ∀ a b, op a b = op b a) (k : γ) (q : List (α × Int)) : ∀ p : List (α × Int), tot (prodL op p q) k = tot (prodL op q p) k
  | [] => by
    have : prodL op q ([] : List (α × Int)) = [] := by
      unfold prodL
      induction q with
      | nil => rfl
      | cons y q ih => rw [List.flatMap_cons, ih]; rfl
    rw [this]
    rfl
  | x :: p => by
    rw [prodL_cons, tot_app, tot_prod_comm op c k q p, tot_prod_cons op x p k q]
    have : (q.map fun y => (op y.1 x.1, y.2 * x.2)) = rowL op x q := by
      unfold rowL
      refine List.map_congr_left fun y _ => ?_
      rw [c, Int.mul_comm]
    rw [this]
/-- a row with another factor -/
theorem tot_scale (f : α → γ) (c : Int) (k : γ) : ∀ l : List (α × Int), tot (l.map fun x => (f x.1, c * x.2)) k = c * tot (l.map fun x => (f x.1, x.2)) k
  | [] => (Int.mul_zero c).symm
  | x :: l => by
    show (if f x.1 = k then c * x.2 else 0) + tot (l.map fun x => (f x.1, c * x.2)) k = c * ((if f x.1 = k then x.2 else 0) + tot (l.map fun x => (f x.1, x.2)) k)
    rw [tot_scale f c k l, Int.mul_add]
    split
    · rfl
    · rw [Int.mul_zero]
/-- only what the left sums up counts -/
theorem tot_row_sum (op : α → β → γ) (q : List (β × Int)) (k : γ) : ∀ l : List (α × Int), ∀ p : List (α × Int), (∀ (a : α), tot l a = tot p a) → ∀ keys : List α, keys.Nodup → (∀ x ∈ l, x.1 ∈ keys) → (∀ x ∈ p, x.1 ∈ keys) → tot (prodL op l q) k = tot (prodL op p q) k := by
  have norm : ∀ (keys : List α), keys.Nodup → ∀ l : List (α × Int), (∀ x ∈ l, x.1 ∈ keys) → tot (prodL op l q) k = tot (prodL op (keys.map fun a => (a, tot l a)) q) k := by
    intro keys nd l
    induction l with
    | nil =>
      intro _
      have z : ∀ ks : List α, tot (prodL op (ks.map fun a => (a, tot ([] : List (α × Int)) a)) q) k = 0 := by
        intro ks
        induction ks with
        | nil => rfl
        | cons a ks ih =>
          rw [List.map_cons, prodL_cons, tot_app, ih]
          show tot (rowL op (a, (0 : Int)) q) k + 0 = 0
          have := tot_scale (fun b => op a b) 0 k q
          rw [Int.zero_mul] at this
          show tot (q.map fun y => (op a y.1, 0 * y.2)) k + 0 = 0
          rw [this]
          rfl
      rw [z]
      rfl
    | cons x l ih =>
      intro h
      rw [prodL_cons, tot_app, ih fun y hy => h y (List.mem_cons_of_mem _ hy)]
      have step : ∀ ks : List α, ks.Nodup → tot (prodL op (ks.map fun a => (a, tot (x :: l) a)) q) k = (if x.1 ∈ ks then tot (rowL op x q) k else 0) + tot (prodL op (ks.map fun a => (a, tot l a)) q) k := by
        intro ks
        induction ks with
        | nil => intro _; rfl
        | cons a ks ih2 =>
          intro nd2
          obtain ⟨n1, n2⟩ := List.nodup_cons.mp nd2
          rw [List.map_cons, List.map_cons, prodL_cons, prodL_cons, tot_app, tot_app, ih2 n2]
          have r1 : tot (rowL op (a, tot (x :: l) a) q) k = (if x.1 = a then tot (rowL op x q) k else 0) + tot (rowL op (a, tot l a) q) k := by
            show tot (q.map fun y => (op a y.1, tot (x :: l) a * y.2)) k = _ + tot (q.map fun y => (op a y.1, tot l a * y.2)) k
            rw [tot_scale (fun b => op a b), tot_scale (fun b => op a b)]
            show ((if x.1 = a then x.2 else 0) + tot l a) * _ = _
            rw [Int.add_mul]
            congr 1
            by_cases e : x.1 = a
            · rw [if_pos e, if_pos e]
              show _ = tot (q.map fun y => (op x.1 y.1, x.2 * y.2)) k
              rw [tot_scale (fun b => op x.1 b), e]
            · rw [if_neg e, if_neg e, Int.zero_mul]
          rw [r1]
          by_cases e : x.1 = a
          · rw [if_pos e, if_neg (by rw [e]; exact n1), if_pos (by rw [e]; exact List.mem_cons_self ..)]
            omega
          · rw [if_neg e]
            by_cases m : x.1 ∈ ks
            · rw [if_pos m, if_pos (List.mem_cons_of_mem _ m)]
              omega
            · rw [if_neg m, if_neg fun z => (List.mem_cons.mp z).elim e m]
              omega
      rw [step keys nd, if_pos (h x (List.mem_cons_self ..))]
  intro l p e keys nd hl hp
  rw [norm keys nd l hl, norm keys nd p hp]
  congr 2
  exact List.map_congr_left fun a _ => by rw [e]
end K2P

set_option Elab.async false
set_option linter.all false
/-! Products of tables: one behind another, over a sum. Speaks of no program. -/
namespace K2P
variable {α : Type} [DecidableEq α]
theorem rowL_app (op : α → α → α) (x : α × Int) (a b : List (α × Int)) : rowL op x (a ++ b) = rowL op x a ++ rowL op x b := List.map_append
theorem prodL_row (op : α → α → α) (as : ∀ a b c, op (op a b) c = op a (op b c)) (x : α × Int) (r : List (α × Int)) : ∀ q : List (α × Int), prodL op (rowL op x q) r = rowL op x (prodL op q r)
  | [] => rfl
  | y :: q => by
    show prodL op ((op x.1 y.1, x.2 * y.2) :: rowL op x q) r = _
    rw [prodL_cons, prodL_cons, rowL_app, prodL_row op as x r q]
    congr 1
    show (r.map fun z => (op (op x.1 y.1) z.1, x.2 * y.2 * z.2)) = (r.map fun z => (op y.1 z.1, y.2 * z.2)).map fun z => (op x.1 z.1, x.2 * z.2)
    rw [List.map_map]
    refine List.map_congr_left fun z _ => ?_
    show (op (op x.1 y.1) z.1, x.2 * y.2 * z.2) = (op x.1 (op y.1 z.1), x.2 * (y.2 * z.2))
    rw [as, Int.mul_assoc]
/-- one behind another, in either sequence -/
theorem prodL_assoc (op : α → α → α) (as : ∀ a b c, op (op a b) c = op a (op b c)) (q r : List (α × Int)) : ∀ p : List (α × Int), prodL op (prodL op p q) r = prodL op p (prodL op q r)
  | [] => rfl
  | x :: p => by rw [prodL_cons, prodL_cons, prodL_app, prodL_row op as, prodL_assoc op as q r p]
/-- by the one of the keys -/
theorem prodL_one (op : α → α → α) (e : α) (u : ∀ a, op e a = a) (q : List (α × Int)) : prodL op [(e, 1)] q = q := by
  rw [prodL_cons]
  show (q.map fun y => (op e y.1, 1 * y.2)) ++ [] = q
  rw [List.append_nil]
  have : ∀ y ∈ q, ((op e y.1, 1 * y.2) : α × Int) = y := fun y _ => by rw [u, Int.one_mul]
  rw [List.map_congr_left this, List.map_id']
/-- a table that sums up to the same may stand in place of a factor, to the right too -/
theorem tot_prod_right (op : α → α → α) (c : ∀ a b, op a b = op b a) (q : List (α × Int)) (k : α) (l p : List (α × Int)) (e : ∀ a, tot l a = tot p a) (keys : List α) (nd : keys.Nodup) (hl : ∀ x ∈ l, x.1 ∈ keys) (hp : ∀ x ∈ p, x.1 ∈ keys) :
    tot (prodL op q l) k = tot (prodL op q p) k := by
  rw [tot_prod_comm op c k l q, tot_prod_comm op c k p q]
  exact tot_row_sum op q k l p e keys nd hl hp
/-- keys of both, each once -/
theorem keys_both (l p : List (α × Int)) : ∃ keys : List α, keys.Nodup ∧ (∀ x ∈ l, x.1 ∈ keys) ∧ ∀ x ∈ p, x.1 ∈ keys := by
  have one : ∀ m : List (α × Int), ∃ keys : List α, keys.Nodup ∧ ∀ x ∈ m, x.1 ∈ keys := by
    intro m
    induction m with
    | nil => exact ⟨[], List.nodup_nil, fun x h => nomatch h⟩
    | cons y m ih =>
      obtain ⟨ks, h1, h2⟩ := ih
      by_cases e : y.1 ∈ ks
      · refine ⟨ks, h1, fun x hx => (List.mem_cons.mp hx).elim (fun q => ?_) (h2 x)⟩
        rw [q]
        exact e
      · refine ⟨y.1 :: ks, List.nodup_cons.mpr ⟨e, h1⟩, fun x hx => (List.mem_cons.mp hx).elim (fun q => ?_) (fun q => List.mem_cons_of_mem _ (h2 x q))⟩
        rw [q]
        exact List.mem_cons_self ..
  obtain ⟨ks, h1, h2⟩ := one (l ++ p)
  exact ⟨ks, h1, fun x hx => h2 x (List.mem_append_left _ hx), fun x hx => h2 x (List.mem_append_right _ hx)⟩
/-- both factors by what they sum up -/
theorem tot_prod_ext (op : α → α → α) (c : ∀ a b, op a b = op b a) {l p m n : List (α × Int)} (e : ∀ a, tot l a = tot p a) (f : ∀ a, tot m a = tot n a) (k : α) : tot (prodL op l m) k = tot (prodL op p n) k := by
  obtain ⟨ks, nd, h1, h2⟩ := keys_both l p
  obtain ⟨js, nj, g1, g2⟩ := keys_both m n
  rw [tot_row_sum op m k l p e ks nd h1 h2, tot_prod_right op c p k m n f js nj g1 g2]
/-- a product over a sum -/
theorem tot_prod_add (op : α → α → α) (a b q : List (α × Int)) (k : α) : tot (prodL op (a ++ b) q) k = tot (prodL op a q) k + tot (prodL op b q) k := by
  rw [prodL_app, tot_app]
end K2P

set_option Elab.async false
set_option linter.all false
set_option maxRecDepth 100000
set_option maxHeartbeats 4000000
/-! Dicts from flat keys (ints or texts) to ints, as lists of pairs. Speaks of no program. -/
namespace K2P
open PySem L2
section
variable {κ : Type} [DecidableEq κ]
def valT (T : List (κ × Int)) (k : κ) : Option Int := (T.find? fun x => decide (x.1 = k)).map (·.2)
def putT (T : List (κ × Int)) (k : κ) (c : Int) : List (κ × Int) := if (valT T k).isSome then T.map fun x => if x.1 = k then (x.1, c) else x else T ++ [(k, c)]
def getT (T : List (κ × Int)) (k : κ) : Int := (valT T k).getD 0
theorem valT_cons (x : κ × Int) (T : List (κ × Int)) (k : κ) : valT (x :: T) k = if x.1 = k then some x.2 else valT T k := by
  unfold valT
  rw [List.find?_cons]
  by_cases e : x.1 = k
  · simp [e]
  · simp [e]
theorem valT_none : ∀ {T : List (κ × Int)} {k : κ}, valT T k = none ↔ k ∉ T.map (·.1)
  | [], k => by simp [valT]
  | x :: T, k => by
    rw [valT_cons, List.map_cons, List.mem_cons]
    by_cases e : x.1 = k
    · simp [e]
    · rw [if_neg e, valT_none]
      simp [show ¬ k = x.1 from fun z => e z.symm]
theorem valT_mem : ∀ {T : List (κ × Int)}, (T.map (·.1)).Nodup → ∀ {k : κ} {c : Int}, valT T k = some c ↔ (k, c) ∈ T
  | [], _, k, c => by simp [valT]
  | x :: T, nd, k, c => by
    have nd' := List.nodup_cons.mp nd
    rw [valT_cons, List.mem_cons]
    by_cases e : x.1 = k
    · rw [if_pos e]
      constructor
      · intro h
        have h := Option.some.inj h
        exact .inl (by rw [← e, ← h])
      · rintro (h | h)
        · rw [← h]
        · exact absurd (List.mem_map.mpr ⟨(k, c), h, e.symm⟩) nd'.1
    · rw [if_neg e, valT_mem nd'.2]
      constructor
      · exact .inr
      · rintro (h | h)
        · rw [← h] at e; exact absurd rfl e
        · exact h
theorem getT_tot : ∀ {T : List (κ × Int)}, (T.map (·.1)).Nodup → ∀ k, getT T k = tot T k
  | [], _, k => rfl
  | x :: T, nd, k => by
    have nd' := List.nodup_cons.mp nd
    show _ = (if x.1 = k then x.2 else 0) + tot T k
    rw [← getT_tot nd'.2 k]
    unfold getT
    rw [valT_cons]
    by_cases e : x.1 = k
    · rw [if_pos e, if_pos e, valT_none.mpr (by rw [← e]; exact nd'.1)]
      exact (Int.add_zero _).symm
    · rw [if_neg e, if_neg e, Int.zero_add]
theorem keys_putT (T : List (κ × Int)) (k : κ) (c : Int) : (putT T k c).map (·.1) = if (valT T k).isSome then T.map (·.1) else T.map (·.1) ++ [k] := by
  unfold putT
  split
  · rw [List.map_map]
    refine List.map_congr_left fun x _ => ?_
    show (if x.1 = k then (x.1, c) else x).1 = x.1
    split <;> rfl
  · rw [List.map_append]; rfl
theorem nodup_putT {T : List (κ × Int)} (nd : (T.map (·.1)).Nodup) (k : κ) (c : Int) : ((putT T k c).map (·.1)).Nodup := by
  rw [keys_putT]
  split
  · exact nd
  · rename_i h
    have : valT T k = none := by simpa using h
    exact List.nodup_append.mpr ⟨nd, by simp, fun a ha b hb e => by
      rw [List.mem_singleton] at hb
      rw [e, hb] at ha
      exact valT_none.mp this ha⟩
theorem mem_keys_putT {T : List (κ × Int)} {k j : κ} {c : Int} : j ∈ (putT T k c).map (·.1) ↔ j ∈ T.map (·.1) ∨ j = k := by
  rw [keys_putT]
  split
  · rename_i h
    constructor
    · exact .inl
    · rintro (q | q)
      · exact q
      · rw [q]
        cases hv : valT T k with
        | none => rw [hv] at h; cases h
        | some v => exact Classical.byContradiction fun z => by rw [valT_none.mpr z] at hv; cases hv
  · rw [List.mem_append, List.mem_singleton]
theorem len_putT (T : List (κ × Int)) (k : κ) (c : Int) : (putT T k c).length ≤ T.length + 1 := by
  unfold putT
  split
  · rw [List.length_map]; omega
  · rw [List.length_append]; exact Nat.le_refl _
theorem le_putT (T : List (κ × Int)) (k : κ) (c : Int) : T.length ≤ (putT T k c).length := by
  unfold putT
  split
  · rw [List.length_map]; omega
  · rw [List.length_append]; omega
theorem valT_put : ∀ (T : List (κ × Int)) (k : κ) (c : Int) (j : κ), valT (putT T k c) j = if j = k then some c else valT T j := by
  have rep : ∀ (T : List (κ × Int)) (k : κ) (c : Int) (j : κ), valT (T.map fun x => if x.1 = k then (x.1, c) else x) j = (valT T j).map fun v => if j = k then c else v := by
    intro T k c j
    induction T with
    | nil => rfl
    | cons x T ih =>
      rw [List.map_cons, valT_cons, valT_cons, ih]
      by_cases e : x.1 = k
      · rw [if_pos e]
        by_cases e2 : x.1 = j
        · rw [if_pos e2, if_pos e2]
          show some c = some (if j = k then c else x.2)
          rw [if_pos (e2.symm.trans e)]
        · rw [if_neg e2, if_neg e2]
      · rw [if_neg e]
        by_cases e2 : x.1 = j
        · rw [if_pos e2, if_pos e2]
          show some x.2 = some (if j = k then c else x.2)
          rw [if_neg (fun z => e (e2.trans z))]
        · rw [if_neg e2, if_neg e2]
  intro T k c j
  unfold putT
  split
  · rename_i h
    rw [rep]
    by_cases e : j = k
    · subst e
      rw [if_pos rfl]
      cases q : valT T j with
      | none => rw [q] at h; cases h
      | some v => show some (if j = j then c else v) = _; rw [if_pos rfl]
    · rw [if_neg e]
      cases valT T j with
      | none => rfl
      | some v => show some (if j = k then c else v) = _; rw [if_neg e]
  · rename_i h
    have h : valT T k = none := by simpa using h
    have app : ∀ T : List (κ × Int), valT T k = none → valT (T ++ [(k, c)]) j = if j = k then some c else valT T j := by
      intro T
      induction T with
      | nil =>
        intro _
        show valT ((k, c) :: []) j = _
        rw [valT_cons]
        by_cases e : j = k
        · rw [if_pos e, if_pos e.symm]
        · rw [if_neg e, if_neg (fun z => e z.symm)]
      | cons x T ih =>
        intro hn
        rw [valT_cons] at hn
        by_cases e : x.1 = k
        · rw [if_pos e] at hn; cases hn
        · rw [if_neg e] at hn
          rw [List.cons_append, valT_cons, valT_cons, ih hn]
          by_cases e2 : x.1 = j
          · rw [if_pos e2, if_pos e2, if_neg (fun z => e (e2.trans z))]
          · rw [if_neg e2, if_neg e2]
    exact app T h
theorem getT_put (T : List (κ × Int)) (k : κ) (c : Int) (j : κ) : getT (putT T k c) j = if j = k then c else getT T j := by
  unfold getT
  rw [valT_put]
  split <;> rfl
/-! ### as a dict -/
def mpT (e : κ → Key) (T : List (κ × Int)) : List (Key × V) := T.map fun x => (e x.1, V.int x.2)
theorem len_mpT (e : κ → Key) (T : List (κ × Int)) : (mpT e T).length = T.length := List.length_map ..
theorem valV_mpT {e : κ → Key} (inj : ∀ a b, e a = e b → a = b) : ∀ (T : List (κ × Int)) (k : κ), valV (mpT e T) (e k) = (valT T k).map V.int
  | [], k => rfl
  | x :: T, k => by
    show valV ((e x.1, V.int x.2) :: mpT e T) (e k) = _
    rw [valT_cons]
    by_cases h : x.1 = k
    · rw [if_pos h, valV_pos (p := (e x.1, V.int x.2)) (by rw [h])]
      rfl
    · rw [if_neg h, valV_neg (p := (e x.1, V.int x.2)) (fun z => h (inj _ _ z)), valV_mpT inj T k]
theorem putK_mpT {e : κ → Key} (inj : ∀ a b, e a = e b → a = b) (T : List (κ × Int)) (k : κ) (c : Int) : putK (mpT e T) (e k) (.int c) = mpT e (putT T k c) := by
  unfold putK putT
  rw [valV_any, valV_mpT inj, Option.isSome_map]
  split
  · unfold mpT
    rw [List.map_map, List.map_map]
    refine List.map_congr_left fun x _ => ?_
    show (if e x.1 = e k then (e x.1, V.int c) else (e x.1, V.int x.2)) = (e (if x.1 = k then (x.1, c) else x).1, V.int (if x.1 = k then (x.1, c) else x).2)
    by_cases h : x.1 = k
    · rw [if_pos (by rw [h]), if_pos h]
    · rw [if_neg (fun z => h (inj _ _ z)), if_neg h]
  · unfold mpT
    rw [List.map_append]
    rfl
theorem getD_mpT {e : κ → Key} (inj : ∀ a b, e a = e b → a = b) (T : List (κ × Int)) (k : κ) : (valV (mpT e T) (e k)).getD (.int 0) = .int (getT T k) := by
  rw [valV_mpT inj]
  unfold getT
  cases valT T k <;> rfl
theorem at_mpT {e : κ → Key} {T : List (κ × Int)} {i : Nat} {k : Key} {v : V} (h : (mpT e T)[i]? = some (k, v)) : ∃ x, T[i]? = some x ∧ k = e x.1 ∧ v = .int x.2 := by
  unfold mpT at h
  rw [List.getElem?_map] at h
  obtain ⟨x, hx, q⟩ := Option.map_eq_some_iff.mp h
  exact ⟨x, hx, (Prod.mk.inj q).1.symm, (Prod.mk.inj q).2.symm⟩
end
/-- int keys -/
abbrev KI := List (Int × Int)
def eI : Int → Key := Sum.inl
theorem eI_inj : ∀ a b, eI a = eI b → a = b := fun _ _ h => Sum.inl.inj h
def eS : Str → Key := Sum.inr
theorem eS_inj : ∀ a b, eS a = eS b → a = b := fun _ _ h => Sum.inr.inj h
/-- at d a dict of int keys, its pairs T -/
def TabAt (H : Hp) (d : Addr) (T : KI) : Prop := H d = some (.dK (mpT eI T)) ∧ (T.map (·.1)).Nodup
theorem TabAt.up {H H' : Hp} {d : Addr} {T : KI} (h : TabAt H d T) (s : Same H H') : TabAt H' d T := ⟨s _ _ h.1, h.2⟩
/-! ### rows of products -/
def addT (T : KI) (k c : Int) : KI := putT T k (getT T k + c)
def rowT (T : KI) (k m : Int) (C : KI) : KI := C.foldl (fun T y => addT T (k + y.1) (m * y.2)) T
theorem nodup_addT {T : KI} (nd : (T.map (·.1)).Nodup) (k c : Int) : ((addT T k c).map (·.1)).Nodup := nodup_putT nd _ _
theorem tot_addT {T : KI} (nd : (T.map (·.1)).Nodup) (k c j : Int) : tot (addT T k c) j = tot T j + if k = j then c else 0 := by
  rw [← getT_tot (nodup_addT nd k c), ← getT_tot nd]
  unfold addT
  rw [getT_put]
  by_cases e : j = k
  · rw [if_pos e, if_pos e.symm, e]
  · rw [if_neg e, if_neg (fun z => e z.symm), Int.add_zero]
theorem nodup_rowT {k m : Int} : ∀ {C T : KI}, (T.map (·.1)).Nodup → ((rowT T k m C).map (·.1)).Nodup
  | [], _, h => h
  | y :: C, T, h => nodup_rowT (C := C) (nodup_addT h _ _)
theorem tot_rowT {k m j : Int} : ∀ {C T : KI}, (T.map (·.1)).Nodup → tot (rowT T k m C) j = tot T j + tot (rowL (· + ·) (k, m) C) j
  | [], T, _ => by show tot T j = tot T j + 0; omega
  | y :: C, T, h => by
    show tot (rowT (addT T (k + y.1) (m * y.2)) k m C) j = _ + ((if k + y.1 = j then m * y.2 else 0) + tot (rowL (· + ·) (k, m) C) j)
    rw [tot_rowT (nodup_addT h _ _), tot_addT h]
    omega
theorem len_rowT {k m : Int} : ∀ {C T : KI}, (rowT T k m C).length ≤ T.length + C.length
  | [], T => by show T.length ≤ T.length + 0; omega
  | y :: C, T => by
    have h1 := len_rowT (k := k) (m := m) (C := C) (T := addT T (k + y.1) (m * y.2))
    have h2 := len_putT T (k + y.1) (getT T (k + y.1) + m * y.2)
    show (rowT (addT T (k + y.1) (m * y.2)) k m C).length ≤ T.length + (C.length + 1)
    unfold addT at h1 ⊢
    omega
theorem rowT_take {C : KI} {i : Nat} {y : Int × Int} (h : C[i]? = some y) (T : KI) (k m : Int) : rowT T k m (C.take (i + 1)) = addT (rowT T k m (C.take i)) (k + y.1) (m * y.2) := by
  have lt : i < C.length := (List.getElem?_eq_some_iff.mp h).1
  have e : C[i] = y := (List.getElem?_eq_some_iff.mp h).2
  unfold rowT
  rw [List.take_succ_eq_append_getElem lt, List.foldl_append, e]
  rfl
theorem keys_rowT {k m j : Int} : ∀ {C T : KI}, j ∈ (rowT T k m C).map (·.1) → j ∈ T.map (·.1) ∨ ∃ y ∈ C, j = k + y.1
  | [], _, h => .inl h
  | y :: C, T, h => by
    rcases keys_rowT (C := C) (T := addT T (k + y.1) (m * y.2)) h with h | ⟨z, hz, e⟩
    · rcases mem_keys_putT.mp h with h | h
      · exact .inl h
      · exact .inr ⟨y, List.mem_cons_self .., h⟩
    · exact .inr ⟨z, List.mem_cons_of_mem _ hz, e⟩
def prodT (P C : KI) : KI := P.foldl (fun T x => rowT T x.1 x.2 C) []
theorem prodT_take {P C : KI} {i : Nat} {x : Int × Int} (h : P[i]? = some x) : prodT (P.take (i + 1)) C = rowT (prodT (P.take i) C) x.1 x.2 C := by
  have lt : i < P.length := (List.getElem?_eq_some_iff.mp h).1
  have e : P[i] = x := (List.getElem?_eq_some_iff.mp h).2
  unfold prodT
  rw [List.take_succ_eq_append_getElem lt, List.foldl_append, e]
  rfl
theorem foldl_prod {C : KI} : ∀ {P T : KI}, (T.map (·.1)).Nodup → ((P.foldl (fun T x => rowT T x.1 x.2 C) T).map (·.1)).Nodup ∧ ∀ j, tot (P.foldl (fun T x => rowT T x.1 x.2 C) T) j = tot T j + tot (prodL (· + ·) P C) j
  | [], T, h => ⟨h, fun j => by show tot T j = tot T j + 0; omega⟩
  | x :: P, T, h => by
    obtain ⟨h1, h2⟩ := foldl_prod (C := C) (P := P) (nodup_rowT (k := x.1) (m := x.2) (C := C) h)
    refine ⟨h1, fun j => ?_⟩
    have q : tot (rowT T x.1 x.2 C) j = tot T j + tot (rowL (· + ·) x C) j := tot_rowT (k := x.1) (m := x.2) (C := C) (j := j) h
    rw [List.foldl_cons, h2, q, prodL_cons, tot_app]
    omega
theorem nodup_prodT (P C : KI) : ((prodT P C).map (·.1)).Nodup := (foldl_prod (C := C) (P := P) (T := []) List.nodup_nil).1
theorem tot_prodT (P C : KI) (j : Int) : tot (prodT P C) j = tot (prodL (· + ·) P C) j := by
  have := (foldl_prod (C := C) (P := P) (T := []) List.nodup_nil).2 j
  rw [show tot ([] : KI) j = 0 from rfl, Int.zero_add] at this
  exact this
theorem len_foldl_prod {C : KI} : ∀ {P T : KI}, (P.foldl (fun T x => rowT T x.1 x.2 C) T).length ≤ T.length + P.length * C.length
  | [], T => by show T.length ≤ T.length + 0 * C.length; omega
  | x :: P, T => by
    have h1 := len_foldl_prod (C := C) (P := P) (T := rowT T x.1 x.2 C)
    have h2 := len_rowT (k := x.1) (m := x.2) (C := C) (T := T)
    rw [List.foldl_cons, List.length_cons, Nat.succ_mul]
    omega
theorem len_prodT (P C : KI) : (prodT P C).length ≤ P.length * C.length := by
  have := len_foldl_prod (C := C) (P := P) (T := [])
  rw [List.length_nil, Nat.zero_add] at this
  exact this
def nzT (T : KI) : KI := T.filter fun x => decide (x.2 ≠ 0)
theorem nodup_nzT {T : KI} (h : (T.map (·.1)).Nodup) : ((nzT T).map (·.1)).Nodup := h.sublist (List.filter_sublist.map _)
end K2P

set_option Elab.async false
set_option linter.all false
set_option maxRecDepth 100000
set_option maxHeartbeats 4000000
/-! sorted(d.items()), d's keys and values ints. Speaks of no program. -/
namespace K2P
open PySem PySem.Spec PyProof.Rows L2 K1D
def pairI (x : Int × Int) : NestedKey := .tup [.num x.1, .num x.2]
def riseP (T : KI) : KI := T.mergeSort (PySem.W.dataLe false fun x => (pairI x).data)
theorem riseP_perm (T : KI) : (riseP T).Perm T := List.mergeSort_perm _ _
theorem al_pairI (x y : Int × Int) : PySem.W.alike (pairI x).data (pairI y).data = true := by
  show PySem.W.alike (.tuple [.int x.1, .int x.2]) (.tuple [.int y.1, .int y.2]) = true
  simp only [PySem.W.alike, PySem.W.alikeAll, Bool.and_self]
/-- at L a list of pairs -/
def ColsAt (K : PySem.W.Frag) (H : Hp) (L : Addr) (C : KI) : Prop := ∃ zs, H L = some (.lst zs) ∧ KeyVs K H (C.map pairI) zs
theorem pairs_at {P : Program} {w : World} : ∀ {T : KI} {vs : List (L2.Key × Value)} {es : List DictEntry}, KV (mpT eI T) vs → Pairs (mixKind P w) es vs → ∀ {j : Nat} {y : Int × Int}, T[j]? = some y → ∃ (e : DictEntry) (t1 t2 : Tok), es[j]? = some e ∧ e.key = .int y.1 t1 ∧ e.val = .int y.2 t2
  | [], _, _, _, _, j, y, h => by simp at h
  | x :: T, _, _, .cons (b := b) r rs, .cons (e := e) h1 h2 hs, j, y, h => by
    cases j with
    | zero =>
      simp only [List.getElem?_cons_zero, Option.some.injEq] at h
      subst h
      obtain ⟨r1, r2⟩ := r
      have k1 : keyIs (Sum.inl x.1) e.key = true := by
        have : b.1 = Sum.inl x.1 := r1.symm
        rw [← this]
        exact h1
      rcases keyIs_shape k1 with ⟨i, t, e1, e2⟩ | ⟨z, t, e1, e2⟩
      · cases e1
        obtain ⟨t2, e3⟩ := (r2 : RelV (.int x.2) b.2)
        exact ⟨e, t, t2, rfl, e2, by rw [h2, e3]⟩
      · cases e1
    | succ j =>
      simp only [List.getElem?_cons_succ] at h ⊢
      exact pairs_at rs hs h
def rSortItI (K : PySem.W.Frag) : List V → Hp → VK → Prop := fun vs H Q => ∃ (p a : Addr) (T : KI), vs = [.ref p] ∧ H p = some (DX.itemsO p a) ∧ H a = some (.dK (mpT eI T)) ∧
  ∀ (H' : Hp) (l : Addr), (∀ b o, H b = some o → H' b = some o) → H l = none → ColsAt K H' l (riseP T) → Q (.ref l) H'
section
variable {X : Cx}
theorem cr_sortItI (hc : X.calm = true) (hu : X.A.units + 64 < cLine) : CallR X (.builtin "sorted") (rSortItI X.K) := by
  intro pn s σ H xs us Q I r h
  obtain ⟨p, a, T, rfl, hp, ha, q⟩ := h
  obtain rfl := Vals.ref1 r
  have view : s.heap.IsItemsView p a := (show ObjOk X.prog X.w H s.heap p (DX.itemsO p a) from I.hok p _ hp).1
  obtain ⟨hz, hs0, vs, kv, hdo⟩ := dk_of I.hok ha
  obtain ⟨o, es, ep, ho, hx, hdat, hko, hpr, hnd⟩ := id hdo
  have l1 := hpr.length
  rw [Array.length_toList] at l1
  have l2 : (mpT eI T).length = vs.length := Paired.length kv
  rw [len_mpT] at l2 hz
  refine DT.sortedI (es := es) (ep := ep) (I.ok.hd hc) view ⟨o, ho, hx, hdat⟩ (by omega) fun h' tk as hk hlt hl hG => ?_
  have nd : as.Nodup := List.Pairwise.imp (fun h => Nat.ne_of_lt h) hG.rise
  have lam : as.length = T.length := by omega
  have pr : ∀ (j : Nat) (b : Addr) (y : Int × Int), as[j]? = some b → T[j]? = some y → ∃ (t1 t : Tok), h'.get? b = some { cls := .type "tuple", data := .seq #[Value.int y.1 t1, Value.int y.2 t] } := by
    intro j b y hj hy
    obtain ⟨en, hen, hg⟩ := hG.pairs j b hj
    obtain ⟨e, t1, t2, he, h1, h2⟩ := pairs_at kv hpr hy
    rw [← Array.getElem?_toList, he] at hen
    cases hen
    exact ⟨t1, t2, by rw [hg, h1, h2]⟩
  have hob : (h'.push { cls := .type "list", data := .seq (as.map Value.ref).toArray }).get? h'.objs.size = some (seqObj "list" (as.map Value.ref).toArray 0) := Heap.get?_push_size _ rfl
  have ka : ∀ b o, h'.get? b = some o → (h'.push { cls := .type "list", data := .seq (as.map Value.ref).toArray }).get? b = some o := fun b o e => Heap.get?_push_of_some _ e
  have ne0 : ∀ b o, h'.get? b = some o → b ≠ h'.objs.size := fun b o e => Nat.ne_of_lt (Heap.lt_size e)
  generalize hh2 : h'.push { cls := .type "list", data := .seq (as.map Value.ref).toArray } = h2 at hob ka ⊢
  have kb : ∀ b o, s.heap.get? b = some o → h2.get? b = some o := fun b o e => ka b o (hk b o e)
  let Rt : Value → Int × Int → Prop := fun v y => ∃ (j : Nat) (b : Addr), v = .ref b ∧ as[j]? = some b ∧ T[j]? = some y
  have e1 : PySem.W.EachIs Rt (as.map Value.ref) T := each_of (by rw [List.length_map]; exact lam) fun j v y hv hy => by
    rw [List.getElem?_map] at hv
    obtain ⟨b, hb, rfl⟩ := Option.map_eq_some_iff.mp hv
    exact ⟨j, b, rfl, hb, hy⟩
  have e2 : PySem.W.EachIs (fun v y => ∃ as', Reads h2 v (pairI y).data as' ∧ h'.objs.size ∉ as') (as.map Value.ref) T := e1.mono fun v y ⟨j, b, ev, hb, hy⟩ => by
    obtain ⟨t1, t, hg⟩ := pr j b y hb hy
    subst ev
    have r2 : ReadsAll h2 [Value.int y.1 t1, Value.int y.2 t] [.int y.1, .int y.2] [] := ReadsAll.cons (Reads.int y.1 t1) (ReadsAll.cons (Reads.int y.2 t) ReadsAll.nil)
    exact ⟨[], Reads.tuple (ka _ _ hg) rfl rfl r2, by simp⟩
  have hal : PySem.W.AllAlike (T.map fun x => (pairI x).data) := by
    intro d1 h1 d2 h2'
    obtain ⟨y1, m1, rfl⟩ := List.mem_map.mp h1
    obtain ⟨y2, m2, rfl⟩ := List.mem_map.mp h2'
    exact al_pairI y1 y2
  refine PySem.W.list_sort_data (s := { s with heap := h2, toks := tk }) hob e1 e2 hal (PySem.W.Sortable.tuples fun y => ⟨_, _, rfl⟩) (by omega) (fun y hy => ?_) fun out ol oe => ?_
  · have : (pairI y).data.depth = 1 := rfl
    rw [Around.in1_units]
    omega
  · show EP X pn σ Q (.ref h'.objs.size) { s with heap := sortedHeap h2 h'.objs.size (as.map Value.ref) out.toArray, toks := tk }
    have kF : ∀ b o, b ≠ h'.objs.size → h2.get? b = some o → (sortedHeap h2 h'.objs.size (as.map Value.ref) out.toArray).get? b = some o := fun b o hb e => (PyProof.Rows.sortedHeap_old hb (Heap.lt_size e)).trans e
    have kS : ∀ b o, s.heap.get? b = some o → (sortedHeap h2 h'.objs.size (as.map Value.ref) out.toArray).get? b = some o := fun b o e => kF b o (ne0 _ _ (hk b o e)) (kb b o e)
    obtain ⟨eF, heF⟩ := PyProof.Rows.sortedHeap_at (vs := as.map Value.ref) (out := out.toArray) hob
    generalize hF : sortedHeap h2 h'.objs.size (as.map Value.ref) out.toArray = hf at kF kS heF ⊢
    have I1 : Inv X pn σ H { s with heap := hf, toks := tk } := I.kept (t' := tk) kS
    have hn0 : H h'.objs.size = none := I.hok.fresh (Nat.le_of_lt hlt)
    obtain ⟨cs, ecs, ecm⟩ := each_addr (T := fun b y => ∃ j : Nat, as[j]? = some b ∧ T[j]? = some y) (oe.mono fun v y ⟨j, b, ev, hb, hy⟩ => ⟨b, ev, j, hb, hy⟩)
    have lcs : cs.length = T.length := by rw [ecm.length, List.length_mergeSort]
    have I2 : Inv X pn σ (upd H h'.objs.size (.lst (cs.map V.ref))) { s with heap := hf, toks := tk } :=
      I1.take (h' := hf) (t' := tk) (fun b ob _ e => e) (I.fpOk (Nat.le_of_lt hlt) hn0) ⟨by rw [List.length_map]; omega, out, eF, by rw [ecs]; exact vals_refs _, heF⟩
    obtain ⟨H2, I3, g, qt⟩ := DX.takeT (P := fun b vs => ∃ (j : Nat) (y : Int × Int), as[j]? = some b ∧ T[j]? = some y ∧ vs = [.int y.1, .int y.2]) I as _ I2 nd fun b hb => by
      obtain ⟨j, hj⟩ := List.mem_iff_getElem?.mp hb
      have hjl : j < T.length := by rw [← lam]; exact (List.getElem?_eq_some_iff.mp hj).1
      have hy : T[j]? = some T[j] := List.getElem?_eq_getElem hjl
      obtain ⟨t1, t, hg⟩ := pr j b _ hj hy
      have hbl : s.heap.objs.size ≤ b := Nat.le_of_lt (hG.above b hb)
      refine ⟨hbl, ?_, [.int T[j].1, .int T[j].2], ⟨j, T[j], hj, hy, rfl⟩, fun H3 => ⟨(by rw [sizeLine_eq]; show 2 ≤ 16777216; omega), [Value.int T[j].1 t1, Value.int T[j].2 t], .cons ⟨t1, rfl⟩ (.cons ⟨t, rfl⟩ .nil), ⟨_, kF _ _ (ne0 _ _ hg) (ka _ _ hg), rfl, 0, rfl⟩⟩⟩
      rw [upd_ne (ne0 _ _ hg)]
      exact I.hok.fresh hbl
    have gr : ∀ b o, H b = some o → H2 b = some o := fun b o e => g b o (by rw [upd_ne (ne_of_none e hn0)]; exact e)
    refine ⟨.ref h'.objs.size, H2, I3, rfl, q H2 h'.objs.size gr hn0 ⟨cs.map V.ref, g _ _ upd_same, each_keys pairI (ecm.mono fun b y ⟨j, hb, hy⟩ => ?_)⟩⟩
    obtain ⟨vs', ⟨j', y', j1, j2, ev⟩, hH⟩ := qt b (List.mem_of_getElem? hb)
    have eij : j = j' := (List.getElem?_inj (List.getElem?_eq_some_iff.mp hb).1 nd).mp (hb.trans j1.symm)
    subst eij
    have ee : y' = y := Option.some.inj (j2.symm.trans hy)
    rw [ee] at ev
    rw [ev] at hH
    exact .tup hH (.cons (.int y.1) (.cons (.int y.2) .nil))
end
/-- d.items(), a view -/
def tItemsI (td : TE) : TE := fun σ H Q => td σ H fun x G => ∃ (d : Addr) (T : KI), x = .ref d ∧ G d = some (.dK (mpT eI T)) ∧ ∀ p, G p = none → Q (.ref p) (upd G p (DX.itemsO p d))
theorem pe_itemsV {X : Cx} {e : Expr} {td : TE} {ap cp : Pos} (he : PE X e td) (hbase : attributeBase e "items" X.env (eval e X.env) = eval e X.env := by rfl) (hline : (ap.endLine == cp.line) = true := by rfl) :
    PE X (.Call (.Attribute e "items" ap) [] [] cp) (tItemsI td) := ⟨fun pn s τ H Q I h => by
  refine wpAny_Call_method (T := "dict") (id := "dict.items") hbase rfl hline F.plainAttrs_dict F.slot_dict_items F.type_dict_items (thn (he.run pn s τ H _ I h) fun u s1 ⟨x, G, I1, rx, d, T, ex, hd, q⟩ => ?_)
  subst ex
  obtain rfl : u = Value.ref d := rx
  obtain ⟨hz, hs, vs, kv, hdo⟩ := dk_of I1.hok hd
  obtain ⟨o, es, ep, ho, hx, hdat, _⟩ := id hdo
  have raw : s1.heap.DictRaw d es ep := ⟨o, ho, hx, hdat⟩
  refine ⟨raw.typeIs, fun b q => ?_, ?_⟩
  · cases q
    exact ⟨o, ho, hx.2.1⟩
  show wpAny _ _ (callWith cp (.builtin "dict.items") [.ref d] [] []) _ X.xe s1
  refine method_meetsIn F.slot_dict_items F.entry_dict_items rfl (PySem.evalArgs_none ⟨rfl, raw.typeIs, F.args_dict_items_1 _, _, meets_dict_items_raw d hs, ⟨es, ep, raw⟩, ?_⟩)
  exact ⟨.ref s1.heap.objs.size, _, I1.laid (t' := s1.toks) (fun b u e => Heap.get?_push_of_some _ e) (Nat.le_refl _) (DX.itemsO_ok (Heap.get?_push_size _ rfl)), rfl, q _ (I1.hok.fresh (Nat.le_refl _))⟩⟩
end K2P

set_option Elab.async false
set_option linter.all false
set_option maxRecDepth 100000
set_option maxHeartbeats 4000000
set_option autoImplicit false
set_option pp.maxSteps 600
/-! figurehold.tables: _add_row. -/
namespace K2P
open PySem L2 K1D
def top (i : Nat) : Stmt := PySem.Challenge.pw_figurehold_k05_numbers_by_fractions.main.body.getD i (.Pass ⟨0, 0, 0, 0⟩)
theorem ifY {b : Bool} {A B : Prop} (e : b = true) (h : A) : if b = true then A else B := by rw [if_pos e]; exact h
theorem ifN {b : Bool} {A B : Prop} (e : b = false) (h : B) : if b = true then A else B := by rw [e]; exact h
theorem hu8 {A : Around} {k : Nat} (hr : Room k A) : A.units + 8 < cLine := by have := hr.un; omega
theorem hu1 {A : Around} {k : Nat} (hr : Room k A) : A.units + 1 < cLine := by have := hr.un; omega
theorem same_new {q : Addr} {o : HO} {H : Hp} (h : H q = none) : Same H (upd H q o) := fun a x e => (upd_ne (ne_of_none e h)).trans e
theorem take_snoc {α : Type} {l : List α} {i : Nat} {u : α} (h : l[i]? = some u) : l.take (i + 1) = l.take i ++ [u] := by
  obtain ⟨lt, e⟩ := List.getElem?_eq_some_iff.mp h
  rw [List.take_succ_eq_append_getElem lt, e]
/-- all but what is at d stands -/
def Oth (d : Addr) (H G : Hp) : Prop := ∀ a o, a ≠ d → H a = some o → G a = some o
section
variable {d q : Addr} {H G F : Hp} {o : HO}
theorem Oth.refl : Oth d H H := fun _ _ _ e => e
theorem Oth.trans (h : Oth d H G) (g : Oth d G F) : Oth d H F := fun a o n e => g a o n (h a o n e)
theorem Oth.same (s : Same H G) : Oth d H G := fun a o _ e => s a o e
theorem Oth.put : Oth d H (upd H d o) := fun a u n e => (upd_ne n).trans e
theorem Oth.tups {K : PySem.W.Frag} {kvs : List (Key × V)} (h : Oth d H G) (hd : H d = some (.dK kvs)) : Tups K H G := ⟨fun a xs e => h a _ (fun z => by rw [z, hd] at e; cases e) e, fun a o xs e => h a _ (fun z => by rw [z, hd] at e; cases e) e⟩
end
theorem keyVs_len {K : PySem.W.Frag} {H : Hp} : ∀ {ks : List NestedKey} {vs : List V}, KeyVs K H ks vs → vs.length = ks.length
  | [], _, h => by cases h; rfl
  | _ :: _, _, h => by
    cases h with
    | cons h1 h2 => rw [List.length_cons, List.length_cons, keyVs_len h2]
theorem keyVs_get {K : PySem.W.Frag} {H : Hp} : ∀ {ks : List NestedKey} {vs : List V}, KeyVs K H ks vs → ∀ {i : Nat} {v : V}, vs[i]? = some v → ∃ k, ks[i]? = some k ∧ KeyV K H k v
  | [], _, h, i, v, e => by cases h; simp at e
  | k :: ks, _, h, i, v, e => by
    cases h with
    | @cons _ u _ us h1 h2 =>
      cases i with
      | zero =>
        simp only [List.getElem?_cons_zero, Option.some.injEq] at e
        subst e
        exact ⟨k, rfl, h1⟩
      | succ i =>
        simp only [List.getElem?_cons_succ] at e ⊢
        exact keyVs_get h2 e
theorem kv_pairI {K : PySem.W.Frag} {H : Hp} {y : Int × Int} {v : V} : KeyV K H (pairI y) v ↔ ∃ t : Addr, v = .ref t ∧ H t = some (.tup [.int y.1, .int y.2]) := by
  constructor
  · intro h
    cases h with
    | @tup a xs ks h1 h2 =>
      cases h2 with
      | cons h2 h3 =>
        cases h3 with
        | cons h3 h4 =>
          cases h4
          cases h3
          cases h2
          exact ⟨a, rfl, h1⟩
    | frz h1 h3 h2 => exact absurd (h3 (.num y.2) (by simp)) fun ⟨l, e⟩ => nomatch e
  · rintro ⟨t, rfl, h⟩
    exact .tup h (.cons (.int _) (.cons (.int _) .nil))
theorem ColsAt.at {K : PySem.W.Frag} {H : Hp} {L : Addr} {C : KI} (h : ColsAt K H L C) : ∃ zs, H L = some (.lst zs) ∧ zs.length = C.length ∧ ∀ (i : Nat) (v : V), zs[i]? = some v → ∃ (y : Int × Int) (t : Addr), C[i]? = some y ∧ v = .ref t ∧ H t = some (.tup [.int y.1, .int y.2]) := by
  obtain ⟨zs, h1, h2⟩ := h
  refine ⟨zs, h1, by rw [keyVs_len h2, List.length_map], fun i v e => ?_⟩
  obtain ⟨k, hk, kv⟩ := keyVs_get h2 e
  rw [List.getElem?_map] at hk
  obtain ⟨y, hy, rfl⟩ := Option.map_eq_some_iff.mp hk
  obtain ⟨t, e1, e2⟩ := kv_pairI.mp kv
  exact ⟨y, t, hy, e1, e2⟩
theorem ColsAt.up {K : PySem.W.Frag} {H G : Hp} {L : Addr} {C : KI} (h : ColsAt K H L C) (s : Same H G) : ColsAt K G L C := by
  obtain ⟨zs, h1, h2⟩ := h
  exact ⟨zs, s _ _ h1, KeyVs.up (Tups.ext s) _ _ h2⟩
theorem ColsAt.oth {K : PySem.W.Frag} {H G : Hp} {L d : Addr} {C : KI} {kvs : List (Key × V)} (h : ColsAt K H L C) (s : Oth d H G) (hd : H d = some (.dK kvs)) : ColsAt K G L C := by
  obtain ⟨zs, h1, h2⟩ := h
  refine ⟨zs, s _ _ (fun z => ?_) h1, KeyVs.up (s.tups hd) _ _ h2⟩
  rw [z, hd] at h1
  cases h1
abbrev sRow : Stmt := top 13
/-- coefficients below 2 ^ a -/
def Bits (a : Nat) (T : KI) : Prop := ∀ x ∈ T, x.2.natAbs < 2 ^ a
def spRow (K : PySem.W.Frag) : Sp := fun vs H Q _ => ∃ (d L : Addr) (k m : Int) (T C : KI) (a b : Nat), vs = [.ref d, .int k, .int m, .ref L] ∧ TabAt H d T ∧ ColsAt K H L C ∧ T.length + C.length < sizeLine ∧ m.natAbs < 2 ^ a ∧ Bits b C ∧ 0 < a ∧ 0 < b ∧ a + b ≤ 1000000 ∧
  ∀ (G : Hp), Oth d H G → TabAt G d (rowT T k m C) → Q .non G
section
variable {P : Program} {w : World} {K : PySem.W.Frag} {mg : Str → Option Value} {base : Heap}
theorem scRow : FnScope ["out", "key", "many", "columns", "other", "much", "both"] ["out", "key", "many", "columns"] (defScope sRow) := ⟨rfl, rfl, rfl, by decide +kernel, rfl, by decide +kernel, by decide +kernel⟩
theorem ok_row {f : Addr} {fd : FuncData} (F : Fun K "_add_row" "_add_row" sRow f fd) : FnOk P w K mg base CX0 1 f fd ["out", "key", "many", "columns"] (spRow K) := by
  refine F.ok scRow (fun vs H Q E h => ?_) (fun cdv A outer s H vs Q E hr h => ?_)
  · obtain ⟨d, L, k, m, T, C, a, b, rfl, _⟩ := h
    rfl
  · obtain ⟨d, L, k, m, T, C, a, b, rfl, hd, hL, hl, ma, cb, a0, b0, ab, go⟩ := h
    refine ⟨_, pss_one (ps_for PassesOwn.never rfl (pi_list (pv 3)) (pg_tup rfl (pgs_cons (pg_name (i := 4) scRow.nd rfl (Or.inl rfl)) (pgs_cons (pg_name (i := 5) scRow.nd rfl (Or.inl rfl)) pgs_nil)))
      (pss_cons (ps_set (i := 6) scRow.nd rfl (Or.inl rfl) (pe_op op_add (pv 1) (pv 4)))
      (pss_one (ps_dput (hu1 hr) (pv 0) (pv 6) (pe_op op_add (pe_dget2 (hu1 hr) (pv 0) (pv 6) pe_int ⟨rfl, rfl, rfl, rfl⟩) (pe_op op_mulW (pv 2) (pv 5))) rfl)))), ?_⟩
    obtain ⟨zs, h1, lz, at_⟩ := hL.at
    have Ld : L ≠ d := fun z => by rw [z, hd.1] at h1; cases h1
    refine ⟨_, rfl, L, rfl, ⟨_, SqL.of h1⟩, ?_⟩
    refine for_it (walk_list (K := K) (a := L) (xs := zs)) (fun i σ G => ∃ u4 u5 u6 : Option V, σ = [some (.ref d), some (.int k), some (.int m), some (.ref L), u4, u5, u6] ∧ Oth d H G ∧ TabAt G d (rowT T k m (C.take i)))
      ⟨_, _, _, rfl, Oth.refl, hd⟩ (fun i σ G _ ⟨_, _, _, _, h, _⟩ => SqL.of (h _ _ Ld h1)) (fun i v σ G G' hi ⟨u4, u5, u6, hσ, oG, tG⟩ ⟨e, hv⟩ => ?_) (fun σ G ⟨u4, u5, u6, hσ, oG, tG⟩ => ?_)
    · subst hσ e
      obtain ⟨y, t, hy, rfl, ht⟩ := at_ i v hv
      have td : t ≠ d := fun z => by rw [z, hd.1] at ht; cases ht
      have ym := List.mem_of_getElem? hy
      have lc : i < C.length := (List.getElem?_eq_some_iff.mp hy).1
      have lt := len_rowT (k := k) (m := m) (C := C.take i) (T := T)
      rw [List.length_take] at lt
      have g1 := DGet.k (k := eI (k + y.1)) tG.1
      refine ⟨t, _, rfl, SqT.of (oG _ _ td ht), rfl, _, _, rfl, _, _, rfl, rfl, ?_⟩
      refine ⟨_, rfl, _, rfl, _, _, rfl, rfl, ?_⟩
      refine ⟨_, rfl, d, rfl, .inl ⟨_, .inl tG.1⟩, _, rfl, _, g1, ?_⟩
      rw [getD_mpT eI_inj]
      refine ⟨_, rfl, _, rfl, _, _, rfl, rfl, wide_mul ma (cb y ym) a0 b0 ab, _, _, rfl, rfl, ?_⟩
      refine ⟨_, rfl, _, rfl, d, _, rfl, DPut.k (k := eI (k + y.1)) tG.1 (by rw [len_mpT]; omega), ?_⟩
      rw [putK_mpT eI_inj]
      refine ⟨_, _, _, rfl, oG.trans Oth.put, ?_⟩
      rw [rowT_take hy]
      exact ⟨upd_same, nodup_addT tG.2 _ _⟩
    · subst hσ
      rw [lz, List.take_length] at tG
      exact go G oG tG
end
end K2P

set_option Elab.async false
set_option linter.all false
set_option maxRecDepth 100000
set_option maxHeartbeats 4000000
set_option autoImplicit false
set_option pp.maxSteps 600
/-! figurehold.tables: times. -/
namespace K2P
open PySem L2 K1D
/-- d is locked, all else stands -/
def LkT (d : Addr) (od : Obj) (u : HO) (H F : Hp) : Prop := F d = some (.frz od u) ∧ ∀ a o, a ≠ d → H a = some o → F a = some o
theorem LkT.start {d : Addr} {od : Obj} {u : HO} {H : Hp} : LkT d od u H (upd H d (.frz od u)) := ⟨upd_same, fun a o ne e => (upd_ne ne).trans e⟩
theorem LkT.new {d q : Addr} {od : Obj} {u o : HO} {H F : Hp} (h : LkT d od u H F) (n : F q = none) : LkT d od u H (upd F q o) :=
  ⟨(upd_ne (ne_of_none h.1 n)).trans h.1, fun a x ne e => (upd_ne (ne_of_none (h.2 a x ne e) n)).trans (h.2 a x ne e)⟩
theorem LkT.set {d q : Addr} {od : Obj} {u o : HO} {H F : Hp} (h : LkT d od u H F) (nq : q ≠ d) (n : H q = none) : LkT d od u H (upd F q o) :=
  ⟨(upd_ne (Ne.symm nq)).trans h.1, fun a x ne e => (upd_ne (ne_of_none e n)).trans (h.2 a x ne e)⟩
theorem LkT.done {d : Addr} {od : Obj} {u : HO} {H F : Hp} (h : LkT d od u H F) (hd : H d = some u) : Same H (upd F d u) := fun a o e => by
  by_cases z : a = d
  · subst z
    rw [hd] at e
    rw [upd_same]
    exact e
  · rw [upd_ne z]
    exact h.2 a o z e
theorem nz_snoc {T : KI} {i : Nat} {y : Int × Int} (h : T[i]? = some y) : nzT (T.take (i + 1)) = nzT (T.take i) ++ (if y.2 ≠ 0 then [y] else []) := by
  unfold nzT
  rw [take_snoc h, List.filter_append]
  congr 1
  by_cases e : y.2 = 0
  · simp [e]
  · simp [e]
theorem put_new {T : KI} {k c : Int} (h : k ∉ T.map (·.1)) : putT T k c = T ++ [(k, c)] := by
  unfold putT
  rw [valT_none.mpr h]
  rfl
theorem keys_nz_take {T : KI} (nd : (T.map (·.1)).Nodup) {i : Nat} {y : Int × Int} (h : T[i]? = some y) : y.1 ∉ (nzT (T.take i)).map (·.1) := fun q => by
  obtain ⟨x, hx, ex⟩ := List.mem_map.mp q
  have hx2 := (List.mem_filter.mp hx).1
  obtain ⟨j, hj⟩ := List.mem_iff_getElem?.mp hx2
  rw [List.getElem?_take] at hj
  split at hj
  · rename_i lj
    have e1 : (T.map (·.1))[j]? = some y.1 := by rw [List.getElem?_map, hj]; exact congrArg some ex
    have e2 : (T.map (·.1))[i]? = some y.1 := by rw [List.getElem?_map, h]; rfl
    have := (List.getElem?_inj (List.getElem?_eq_some_iff.mp e1).1 nd).mp (e1.trans e2.symm)
    omega
  · cases hj
/-- {key: many for key, many in d.items() if many != 0}, d locked -/
theorem nz_read {K : PySem.W.Frag} {σ : L2.St} {F : Hp} {d : Addr} {od : Obj} {T : KI} {o ik im : Nat} {Q : VK} (hd : F d = some (.frz od (.dK (mpT eI T)))) (nd : (T.map (·.1)).Nodup) (lt : T.length < sizeLine) (hv : σ[o]? = some (some (.ref d)))
    (hw : ∀ k m, wipe (((wipe σ [ik, im]).set ik (some k)).set im (some m)) [ik, im] = wipe σ [ik, im]) (hk : ∀ k m, (((wipe σ [ik, im]).set ik (some k)).set im (some m))[ik]? = some (some k)) (hm : ∀ k m, (((wipe σ [ik, im]).set ik (some k)).set im (some m))[im]? = some (some m))
    (go : ∀ D G, F D = none → LkT d od (.dK (mpT eI T)) F G → G D = some (.dK (mpT eI (nzT T))) → Q (.ref D) G) :
    (tDc (iItems (tVar o)) (gTup K 2 (gCons (gName ik) (gCons (gName im) gNil))) (tTest (tOp rNe (tVar im) (tC (.int 0)))) (tVar ik) (tVar im) [ik, im]) σ F Q := by
  refine ⟨_, hv, d, od, _, rfl, hd, fun D nD => ?_⟩
  have Dd : D ≠ d := fun z => by rw [z, hd] at nD; cases nD
  have l0 : LkT d od (.dK (mpT eI T)) F F := ⟨hd, fun _ _ _ e => e⟩
  refine blk_n (o := fun D => .dK []) (n := (mpT eI T).length) (fun (i : Nat) (G : Hp) => LkT d od (.dK (mpT eI T)) F G ∧ G D = some (.dK (mpT eI (nzT (T.take i)))))
    ⟨l0.new nD, upd_same⟩ (fun i G hi ⟨l, _⟩ => ⟨l.1, hi⟩) (fun G ⟨l, _⟩ => ⟨l.1, Nat.le_refl _⟩) (fun i G x G' hi ⟨l, h1⟩ hy => ?_) (fun G ⟨l, h1⟩ => ?_)
  · obtain ⟨t, k, v, hkv, rfl, nt, rfl⟩ := hy
    obtain ⟨y, hy, rfl, rfl⟩ := at_mpT hkv
    have l2 := l.new (o := .tup [kV (eI y.1), .int y.2]) nt
    have ht : upd G t (.tup [kV (eI y.1), .int y.2]) t = some (.tup [kV (eI y.1), .int y.2]) := upd_same
    have h2 : upd G t (.tup [kV (eI y.1), .int y.2]) D = some (.dK (mpT eI (nzT (T.take i)))) := (upd_ne (ne_of_none h1 nt)).trans h1
    generalize upd G t (.tup [kV (eI y.1), .int y.2]) = G2 at l2 ht h2 ⊢
    have ns := nz_snoc hy
    have ll : (nzT (T.take i)).length ≤ T.length := Nat.le_trans (List.length_filter_le _ _) (by rw [List.length_take]; omega)
    refine ⟨t, _, rfl, SqT.of ht, rfl, _, _, rfl, _, _, rfl, rfl, hw _ _, _, hm _ _, rfl, _, rfl, ?_⟩
    by_cases y0 : y.2 = 0
    · refine ifN (by rw [y0]; rfl) ⟨l2, ?_⟩
      rw [ns, if_neg (by simp [y0]), List.append_nil]
      exact h2
    · refine ifY (by simp [y0]) ⟨_, hk _ _, _, hm _ _, _, eI y.1, rfl, h2, by rw [len_mpT]; omega, l2.set Dd nD, ?_⟩
      rw [upd_same, ns, if_pos y0, putK_mpT eI_inj, put_new (keys_nz_take nd hy)]
  · rw [len_mpT, List.take_length] at h1
    exact go D G nD l h1
/-- R is the product of P and C -/
structure ProdR (P C R : KI) : Prop where
  nz : ∀ x ∈ R, x.2 ≠ 0
  tot : ∀ j, K2P.tot R j = K2P.tot (prodL (· + ·) P C) j
  len : R.length ≤ P.length * C.length
  keys : ∀ x ∈ R, ∃ y ∈ P, ∃ z ∈ C, x.1 = y.1 + z.1
theorem ProdR.comm {P C R : KI} (h : ProdR P C R) : ProdR C P R :=
  ⟨h.nz, fun j => (h.tot j).trans (tot_prod_comm (· + ·) (fun a b => Int.add_comm a b) j C P), by rw [Nat.mul_comm]; exact h.len, fun x hx => by
    obtain ⟨y, hy, z, hz, e⟩ := h.keys x hx
    exact ⟨z, hz, y, hy, by omega⟩⟩
theorem keys_foldl {C : KI} : ∀ {P T : KI} {j : Int}, j ∈ (P.foldl (fun T x => rowT T x.1 x.2 C) T).map (·.1) → j ∈ T.map (·.1) ∨ ∃ y ∈ P, ∃ z ∈ C, j = y.1 + z.1
  | [], _, _, h => .inl h
  | x :: P, T, j, h => by
    rw [List.foldl_cons] at h
    rcases keys_foldl (P := P) h with h | ⟨y, hy, z, hz, e⟩
    · rcases keys_rowT h with h | ⟨z, hz, e⟩
      · exact .inl h
      · exact .inr ⟨x, List.mem_cons_self, z, hz, e⟩
    · exact .inr ⟨y, List.mem_cons_of_mem _ hy, z, hz, e⟩
theorem tot_nzT (T : KI) (k : Int) : tot (nzT T) k = tot T k := by
  induction T with
  | nil => rfl
  | cons x T ih =>
    show tot (List.filter _ (x :: T)) k = _
    rw [List.filter_cons]
    by_cases z : x.2 = 0
    · rw [if_neg (by simp [z])]
      show tot (nzT T) k = (if x.1 = k then x.2 else 0) + tot T k
      rw [ih, z]
      split <;> omega
    · rw [if_pos (by simp [z])]
      show (if x.1 = k then x.2 else 0) + tot (nzT T) k = _ + tot T k
      rw [ih]
theorem prodR_nz (P C : KI) : ProdR P C (nzT (prodT P C)) :=
  ⟨fun x hx => of_decide_eq_true (List.mem_filter.mp hx).2, fun j => (tot_nzT _ j).trans (tot_prodT P C j), Nat.le_trans (List.length_filter_le _ _) (len_prodT P C), fun x hx => by
    rcases keys_foldl (C := C) (P := P) (T := []) (j := x.1) (List.mem_map.mpr ⟨x, (List.mem_filter.mp hx).1, rfl⟩) with h | h
    · cases h
    · exact h⟩
theorem cols_of {K : PySem.W.Frag} {H : Hp} : ∀ {C : KI} {ts : List Addr}, Paired (fun (t : Addr) (q : Key × V) => H t = some (.tup [kV q.1, q.2])) ts (mpT eI C) → KeyVs K H (C.map pairI) (ts.map V.ref)
  | [], _, h => by cases h; exact .nil
  | y :: C, _, h => by
    cases h with
    | cons h1 h2 => exact .cons (kv_pairI.mpr ⟨_, rfl, h1⟩) (cols_of h2)
structure RowTxt (P : Program) (w : World) (K : PySem.W.Frag) (mg : Str → Option Value) (base : Heap) (fR : Addr) (dR : FuncData) : Prop where
  ok : FnOk P w K mg base CX0 1 fR dR ["out", "key", "many", "columns"] (spRow K)
  b : Binds K dR ["out", "key", "many", "columns"] []
  g : mg "_add_row" = some (.ref fR)
  k : PySem.W.keepIn K (.ref fR) = true
  len : mg "len" = none
  list : mg "list" = none
def spTimes0 : Sp := fun vs H Q _ => ∃ (d e : Addr) (P C : KI) (a b : Nat), vs = [.ref d, .ref e] ∧ TabAt H d P ∧ TabAt H e C ∧ P.length ≤ C.length ∧ P.length * C.length < sizeLine ∧ C.length < sizeLine ∧ Bits a P ∧ Bits b C ∧ 0 < a ∧ 0 < b ∧ a + b ≤ 1000000 ∧
  ∀ (r : Addr) (R : KI) (G : Hp), Same H G → H r = none → TabAt G r R → ProdR P C R → Q (.ref r) G
def spTimes : Sp := fun vs H Q _ => ∃ (d e : Addr) (P C : KI) (a b : Nat), vs = [.ref d, .ref e] ∧ TabAt H d P ∧ TabAt H e C ∧ P.length * C.length < sizeLine ∧ P.length < sizeLine ∧ C.length < sizeLine ∧ Bits a P ∧ Bits b C ∧ 0 < a ∧ 0 < b ∧ a + b ≤ 1000000 ∧
  ∀ (r : Addr) (R : KI) (G : Hp), Same H G → H r = none → TabAt G r R → ProdR P C R → Q (.ref r) G
section
variable {P : Program} {w : World} {K : PySem.W.Frag} {mg : Str → Option Value} {base : Heap} {fR : Addr} {dR : FuncData}
theorem fn_or {CX : CXT} {k : Nat} {f : Addr} {fd : FuncData} {ps : List Str} {sp1 sp2 : Sp} (h1 : FnOk P w K mg base CX k f fd ps sp1) (h2 : FnOk P w K mg base CX k f fd ps sp2) : FnOk P w K mg base CX k f fd ps (fun vs H Q E => sp1 vs H Q E ∨ sp2 vs H Q E) :=
  ⟨fun vs H Q E q => q.elim (h1.len vs H Q E) (h2.len vs H Q E), fun A outer s H args us vs Q E hr e0 hb r q => q.elim (h1.run A outer s H args us vs Q E hr e0 hb r) (h2.run A outer s H args us vs Q E hr e0 hb r)⟩
theorem fn_up {CX : CXT} {j k : Nat} {f : Addr} {fd : FuncData} {ps : List Str} {sp : Sp} (h : FnOk P w K mg base CX j f fd ps sp) (le : j ≤ k) : FnOk P w K mg base CX k f fd ps sp :=
  ⟨h.len, fun A outer s H args us vs Q E hr e0 hb r q => h.run A outer s H args us vs Q E (hr.mono le) e0 hb r q⟩
theorem fn_imp {CX : CXT} {k : Nat} {f : Addr} {fd : FuncData} {ps : List Str} {sp sp' : Sp} (h : FnOk P w K mg base CX k f fd ps sp) (i : ∀ vs H Q E, sp' vs H Q E → sp vs H Q E) : FnOk P w K mg base CX k f fd ps sp' :=
  ⟨fun vs H Q E q => h.len vs H Q E (i _ _ _ _ q), fun A outer s H args us vs Q E hr e0 hb r q => h.run A outer s H args us vs Q E hr e0 hb r (i _ _ _ _ q)⟩
end
end K2P

set_option Elab.async false
set_option linter.all false
set_option maxRecDepth 100000
set_option maxHeartbeats 4000000
set_option autoImplicit false
set_option pp.maxSteps 600
/-! figurehold.tables: _count_below, times_at_most. -/
namespace K2P
open PySem L2 K1D
abbrev sCount : Stmt := top 14
def lowF (b : Int) (x : Int × Int) : Bool := decide (x.1 < b) && decide (x.2 ≠ 0)
def lowN (T : KI) (b : Int) : Nat := (T.filter (lowF b)).length
def spCount : Sp := fun vs H Q _ => ∃ (d : Addr) (b : Int) (T : KI), vs = [.ref d, .int b] ∧ TabAt H d T ∧ T.length < sizeLine ∧ ∀ G, Same H G → Q (.int (lowN T b)) G
section
variable {P : Program} {w : World} {K : PySem.W.Frag} {mg : Str → Option Value} {base : Heap} {fR : Addr} {dR : FuncData}
theorem scCount : FnScope ["table", "bound", "key", "many"] ["table", "bound"] (defScope sCount) := ⟨rfl, rfl, rfl, by decide +kernel, rfl, by decide +kernel, by decide +kernel⟩
theorem low_snoc {T : KI} {b : Int} {i : Nat} {y : Int × Int} (h : T[i]? = some y) : (T.take (i + 1)).filter (lowF b) = (T.take i).filter (lowF b) ++ (if lowF b y = true then [y] else []) := by
  rw [take_snoc h, List.filter_append]
  congr 1
  cases e : lowF b y <;> simp [e]
theorem ok_count {f : Addr} {fd : FuncData} (F : Fun K "_count_below" "_count_below" sCount f fd) (ln : mg "len" = none) : FnOk P w K mg base CX0 1 f fd ["table", "bound"] spCount := by
  refine F.ok scCount (fun vs H Q E h => ?_) (fun cdv A outer s H vs Q E hr h => ?_)
  · obtain ⟨d, b, T, rfl, _⟩ := h
    rfl
  · obtain ⟨d, b, T, rfl, hd, hl, go⟩ := h
    refine ⟨_, pss_one (ps_lock (ps_ret (pe_callB call_len_seq (by rfl) ln PySem.boot_len (pa_cons (pe_lc (own := [("key", 2), ("many", 3)]) (g := gTup K 2 (gCons (gName 2) (gCons (gName 3) gNil))) (tt := tAnd (tTest (tOp (rI0 fun i j => .bl (decide (i < j))) (tVar 2) (tVar 1))) (tTest (tOp rNe (tVar 3) (tC (.int 0))))) (te := tVar 2) rfl scCount.nd (pi_items (pv 0))
        (blkOk_by (own := [("key", 2), ("many", 3)]) (N := ["table", "bound", "key", "many"]) (sc := defScope sCount) (by decide +kernel))
        (fun _ _ _ _ _ => pg_tup rfl (pgs_cons (pg_name (i := 2) scCount.nd rfl (Or.inl rfl)) (pgs_cons (pg_name (i := 3) scCount.nd rfl (Or.inl rfl)) pgs_nil)))
        (fun _ _ _ _ _ => pts_one (PW.pt (pw_and (pt_cmpR op_lt (pv 2) (pv 1) (nomark _)) (pw_and1 (pt_cmpR op_ne (pv 3) pe_int (nomark _)))))) (fun _ _ _ _ _ => pv 2)) pa_nil)))), ?_⟩
    refine ⟨d, _, hd.1, True.intro, fun od => ?_⟩
    refine ⟨_, rfl, d, od, _, rfl, upd_same, fun D nD => ?_⟩
    have Dd : D ≠ d := fun z => by rw [z, upd_same] at nD; cases nD
    rw [upd_ne Dd] at nD
    refine blk_n (o := fun D => .lst []) (n := (mpT eI T).length) (fun (i : Nat) (G : Hp) => LkT d od (.dK (mpT eI T)) H G ∧ G D = some (.lst (((T.take i).filter (lowF b)).map fun x => V.int x.1)))
      ⟨LkT.start.set Dd nD, upd_same⟩ (fun i G hi ⟨l, _⟩ => ⟨l.1, hi⟩) (fun G ⟨l, _⟩ => ⟨l.1, Nat.le_refl _⟩) (fun i G x G' hi ⟨l, h1⟩ hy => ?_) (fun G ⟨l, h1⟩ => ?_)
    · obtain ⟨t, k, v, hkv, rfl, nt, rfl⟩ := hy
      obtain ⟨y, hy, rfl, rfl⟩ := at_mpT hkv
      have l2 := l.new (o := .tup [kV (eI y.1), .int y.2]) nt
      have ht : upd G t (.tup [kV (eI y.1), .int y.2]) t = some (.tup [kV (eI y.1), .int y.2]) := upd_same
      have h2 : upd G t (.tup [kV (eI y.1), .int y.2]) D = some (.lst (((T.take i).filter (lowF b)).map fun x => V.int x.1)) := (upd_ne (ne_of_none h1 nt)).trans h1
      generalize upd G t (.tup [kV (eI y.1), .int y.2]) = G2 at l2 ht h2 ⊢
      have ns := low_snoc (b := b) hy
      have ll : ((T.take i).filter (lowF b)).length ≤ T.length := Nat.le_trans (List.length_filter_le _ _) (by rw [List.length_take]; omega)
      refine ⟨t, _, rfl, SqT.of ht, rfl, _, _, rfl, _, _, rfl, rfl, rfl, _, rfl, _, rfl, _, _, rfl, rfl, _, rfl, ?_⟩
      have skip : lowF b y = false → LkT d od (.dK (mpT eI T)) H G2 ∧ G2 D = some (.lst (((T.take (i + 1)).filter (lowF b)).map fun x => V.int x.1)) := fun e => by
        refine ⟨l2, ?_⟩
        rw [ns, if_neg (by rw [e]; exact Bool.false_ne_true), List.append_nil]
        exact h2
      by_cases c1 : y.1 < b
      · refine ifY (decide_eq_true c1) ⟨_, rfl, rfl, _, rfl, ?_⟩
        by_cases c2 : y.2 = 0
        · exact ifN (by rw [c2]; rfl) (skip (by unfold lowF; rw [decide_eq_false (show ¬ y.2 ≠ 0 from fun h => h c2), Bool.and_false]))
        · refine ifY (by simp [c2]) ⟨_, rfl, _, h2, by rw [List.length_map]; omega, l2.set Dd nD, ?_⟩
          rw [upd_same, ns, if_pos (by unfold lowF; rw [decide_eq_true c1, decide_eq_true c2]; rfl), List.map_append]
          rfl
      · exact ifN (decide_eq_false c1) (skip (by unfold lowF; rw [decide_eq_false c1]; rfl))
    · rw [len_mpT, List.take_length] at h1
      refine ⟨D, _, rfl, .inl (SqL.of h1), l.1, ?_⟩
      rw [List.length_map]
      exact go _ (l.done hd.1)
end
/-! ### times_at_most -/
abbrev sMost : Stmt := top 12
theorem lt_pairs {x y : Int × Int} (ne : x.1 ≠ y.1) : PySem.W.dataLt (pairI x).data (pairI y).data = decide (x.1 < y.1) := by
  have e : PySem.W.dataLt (pairI x).data (pairI y).data = PySem.W.dataLt (.tuple [.int x.1, .int x.2]) (.tuple [.int y.1, .int y.2]) := rfl
  rw [e, PySem.W.dataLt_pair (by simp [PySem.W.alike]) (by simp [PySem.W.alike]), if_neg (by simp [PyData.eqv, ne]), PySem.W.dataLt_int]
theorem riseP_up {T : KI} (nd : (T.map (·.1)).Nodup) : (riseP T).Pairwise fun x y => x.1 < y.1 := by
  have le : (riseP T).Pairwise fun x y => PySem.W.dataLe false (fun x : Int × Int => (pairI x).data) x y = true := by
    refine List.pairwise_mergeSort (fun a b c h1 h2 => ?_) (fun a b => ?_) T
    · rw [PySem.W.dataLe_eq] at h1 h2 ⊢
      simp only [cond_false, Bool.not_eq_true'] at h1 h2 ⊢
      cases q : PySem.W.dataLt (pairI c).data (pairI a).data with
      | false => rfl
      | true =>
        rcases PyProof.Rows.lex_negTrans (O := PyProof.Rows.itemOrd) (PySem.W.keyToks (pairI c).data) (PySem.W.keyToks (pairI b).data) (PySem.W.keyToks (pairI a).data) q with z | z
        · rw [show PySem.W.dataLt (pairI c).data (pairI b).data = true from z] at h2; cases h2
        · rw [show PySem.W.dataLt (pairI b).data (pairI a).data = true from z] at h1; cases h1
    · rw [PySem.W.dataLe_eq]
      simp only [cond_false]
      cases q : PySem.W.dataLt (pairI b).data (pairI a).data with
      | false => rfl
      | true =>
        cases q2 : PySem.W.dataLt (pairI a).data (pairI b).data with
        | false => rfl
        | true =>
          have := PyProof.Rows.lex_trans (O := PyProof.Rows.itemOrd) _ _ _ q q2
          rw [PyProof.Rows.lex_irrefl] at this
          cases this
  have nd' : (riseP T).Pairwise fun x y => x.1 ≠ y.1 := by
    have : ((riseP T).map (·.1)).Nodup := ((riseP_perm T).map fun x : Int × Int => x.1).nodup_iff.mpr nd
    exact List.pairwise_map.mp this
  refine (le.and nd').imp fun {x y} ⟨h1, ne⟩ => ?_
  rw [PySem.W.dataLe_eq] at h1
  simp only [cond_false, Bool.not_eq_true', lt_pairs (fun z => ne z.symm)] at h1
  have := of_decide_eq_false h1
  omega
theorem nodup_sub {α : Type} [DecidableEq α] : ∀ {a b : List α}, a.Nodup → (∀ x ∈ a, x ∈ b) → a.length ≤ b.length
  | [], _, _, _ => Nat.zero_le _
  | x :: a, b, nd, h => by
    have nd' := List.nodup_cons.mp nd
    have hx := h x List.mem_cons_self
    have := nodup_sub (b := b.erase x) nd'.2 fun y hy => (List.mem_erase_of_ne (fun e => nd'.1 (by rw [← e]; exact hy))).mpr (h y (List.mem_cons_of_mem _ hy))
    rw [List.length_erase_of_mem hx] at this
    have p := List.length_pos_of_mem hx
    rw [List.length_cons]
    omega
theorem tot_perm {a b : KI} (h : a.Perm b) (k : Int) : tot a k = tot b k := by
  induction h with
  | nil => rfl
  | cons x _ ih => show _ + tot _ k = _ + tot _ k; rw [ih]
  | swap x y l => show _ + (_ + tot l k) = _ + (_ + tot l k); omega
  | trans _ _ h g => exact h.trans g
theorem prod_perm {P P' C C' : KI} (hp : P'.Perm P) (hc : C'.Perm C) (j : Int) : tot (prodL (· + ·) P' C') j = tot (prodL (· + ·) P C) j :=
  tot_prod_ext (· + ·) (fun a b => Int.add_comm a b) (fun a => tot_perm hp a) (fun a => tot_perm hc a) j
theorem ProdR.perm {P P' C C' R : KI} (h : ProdR P' C' R) (hp : P'.Perm P) (hc : C'.Perm C) : ProdR P C R :=
  ⟨h.nz, fun j => (h.tot j).trans (prod_perm hp hc j), by rw [← hp.length_eq, ← hc.length_eq]; exact h.len, fun x hx => by
    obtain ⟨y, hy, z, hz, e⟩ := h.keys x hx
    exact ⟨y, hp.mem_iff.mp hy, z, hc.mem_iff.mp hz, e⟩⟩
theorem tot_low {P C : KI} {j b : Int} (h : ∀ x ∈ P, ∀ y ∈ C, b ≤ x.1 + y.1) (jb : j < b) : tot (prodL (· + ·) P C) j = 0 := tot_none fun x hx => by
  obtain ⟨u, hu, hx⟩ := List.mem_flatMap.mp hx
  obtain ⟨y, hy, rfl⟩ := List.mem_map.mp hx
  have := h u hu y hy
  show u.1 + y.1 ≠ j
  omega
theorem tot_key {T : KI} {j : Int} (h : tot T j ≠ 0) : j ∈ T.map (·.1) := Classical.byContradiction fun n => h (tot_none fun x hx e => n (List.mem_map.mpr ⟨x, hx, e⟩))
/-- what stands below the next row's first key stays -/
theorem low_le {P C R : KI} {b : Int} {i : Nat} (pr : ProdR P C R) (h : ∀ x ∈ P.drop i, ∀ y ∈ C, b ≤ x.1 + y.1) : lowN (prodT (P.take i) C) b ≤ R.length := by
  have nd := nodup_prodT (P.take i) C
  have sub : ∀ j ∈ ((prodT (P.take i) C).filter (lowF b)).map (·.1), j ∈ R.map (·.1) := fun j hj => by
    obtain ⟨x, hx, rfl⟩ := List.mem_map.mp hj
    obtain ⟨h1, h2⟩ := List.mem_filter.mp hx
    unfold lowF at h2
    rw [Bool.and_eq_true, decide_eq_true_eq, decide_eq_true_eq] at h2
    refine tot_key ?_
    have e1 : tot (prodL (· + ·) P C) x.1 = tot (prodL (· + ·) (P.take i) C) x.1 + tot (prodL (· + ·) (P.drop i) C) x.1 := by
      have := tot_app (prodL (· + ·) (P.take i) C) (prodL (· + ·) (P.drop i) C) x.1
      rw [← prodL_app, List.take_append_drop] at this
      exact this
    rw [pr.tot, e1, tot_low h h2.1, Int.add_zero, ← tot_prodT, ← getT_tot nd]
    unfold getT
    rw [(valT_mem nd).mpr (show (x.1, x.2) ∈ _ from h1)]
    exact h2.2
  have nd2 : (((prodT (P.take i) C).filter (lowF b)).map (·.1)).Nodup := nd.sublist (List.filter_sublist.map _)
  have := nodup_sub nd2 sub
  rw [List.length_map, List.length_map] at this
  exact this
structure MostTxt (P : Program) (w : World) (K : PySem.W.Frag) (mg : Str → Option Value) (base : Heap) (fC fR : Addr) (dC dR : FuncData) : Prop where
  okC : FnOk P w K mg base CX0 1 fC dC ["table", "bound"] spCount
  bC : Binds K dC ["table", "bound"] []
  gC : mg "_count_below" = some (.ref fC)
  kC : PySem.W.keepIn K (.ref fC) = true
  okR : FnOk P w K mg base CX0 1 fR dR ["out", "key", "many", "columns"] (spRow K)
  bR : Binds K dR ["out", "key", "many", "columns"] []
  gR : mg "_add_row" = some (.ref fR)
  kR : PySem.W.keepIn K (.ref fR) = true
  len : mg "len" = none
  sorted : mg "sorted" = none
  enum : mg "enumerate" = none
  between : ∃ t, mg "ROWS_BETWEEN" = some (.int 64 t)
def spMost : Sp := fun vs H Q _ => ∃ (d e : Addr) (m : Nat) (P C : KI) (a b : Nat), vs = [.ref d, .ref e, .int m] ∧ TabAt H d P ∧ TabAt H e C ∧ P.length * C.length < sizeLine ∧ P.length < sizeLine ∧ C.length < sizeLine ∧ Bits a P ∧ Bits b C ∧ 0 < a ∧ 0 < b ∧ a + b ≤ 1000000 ∧
  (∀ (r : Addr) (R : KI) (G : Hp), Same H G → H r = none → TabAt G r R → ProdR P C R → Q (.ref r) G) ∧ ((∀ R, ProdR P C R → m < R.length) → ∀ G, Same H G → Q .non G)
section
variable {P : Program} {w : World} {K : PySem.W.Frag} {mg : Str → Option Value} {base : Heap} {fC fR : Addr} {dC dR : FuncData}
theorem scMost : FnScope ["p", "q", "most", "out", "rows", "columns", "at", "key", "many"] ["p", "q", "most"] (defScope sMost) := ⟨rfl, rfl, rfl, by decide +kernel, rfl, by decide +kernel, by decide +kernel⟩
theorem ok_most {f : Addr} {fd : FuncData} (F : Fun K "times_at_most" "times_at_most" sMost f fd) (T : MostTxt P w K mg base fC fR dC dR) : FnOk P w K mg base CX0 2 f fd ["p", "q", "most"] spMost := by
  refine F.ok scMost (fun vs H Q E h => ?_) (fun cdv A outer s H vs Q E hr h => ?_)
  · obtain ⟨d, e, m, P1, C, a, b, rfl, _⟩ := h
    rfl
  · obtain ⟨d, e, m, P1, C, a, b, rfl, hd, he, hl, hp, hc, pa, cb, a0, b0, ab, go, no⟩ := h
    obtain ⟨t64, g64⟩ := T.between
    refine ⟨_, pss_cons (ps_set (i := 3) scMost.nd rfl (Or.inl rfl) pe_dnewK)
      (pss_cons (ps_set (i := 4) scMost.nd rfl (Or.inl rfl) (pe_callB (show CallR _ (.builtin "sorted") (rSortItI K) from cr_sortItI rfl hr.units) (by rfl) T.sorted (by decide +kernel) (pa_cons (pe_itemsV (pv 0)) pa_nil)))
      (pss_cons (ps_set (i := 5) scMost.nd rfl (Or.inl rfl) (pe_callB (show CallR _ (.builtin "sorted") (rSortItI K) from cr_sortItI rfl hr.units) (by rfl) T.sorted (by decide +kernel) (pa_cons (pe_itemsV (pv 1)) pa_nil)))
      (pss_cons (ps_for PassesOwn.never rfl (pi_enum (by rfl) T.enum (pa_cons (pv 4) pa_nil)) (pg_tup rfl (pgs_cons (pg_name (i := 6) scMost.nd rfl (Or.inl rfl)) (pgs_cons (pg_tup rfl (pgs_cons (pg_name (i := 7) scMost.nd rfl (Or.inl rfl)) (pgs_cons (pg_name (i := 8) scMost.nd rfl (Or.inl rfl)) pgs_nil))) pgs_nil)))
        (C8.pss_cut (ps_if (PW.pt (pw_and (pt_cmpR op_gt (pv 6) pe_int (nomark _)) (pw_and (pt_cmpR op_gt (pe_callB call_lenD (by rfl) T.len PySem.boot_len (pa_cons (pv 3) pa_nil)) (pv 2) (nomark _)) (pw_and1 (pt_cmpR op_eq (pe_op op_mod (pv 6) (pe_glob (v := .int 64) (by rfl) g64 ⟨t64, rfl⟩)) pe_int (nomark _))))))
          (pss_one (ps_if (pt_cmpR op_gt (pe_call T.okC (hr.mono (by decide)) rfl T.gC T.kC T.bC .nil pass0 (pa_cons (pv 3) (pa_cons (pe_op op_add (pv 7) (pe_ix ix_tup (pe_ix ix_list (pv 5) pe_int (fun _ _ => rfl)) pe_int (fun _ _ => rfl))) pa_nil))) (pv 2) (nomark _)) (pss_one (ps_ret pe_non)) pss_nil)) pss_nil)
        (pss_one (ps_expr (pe_call T.okR (hr.mono (by decide)) rfl T.gR T.kR T.bR .nil pass0 (pa_cons (pv 3) (pa_cons (pv 7) (pa_cons (pv 8) (pa_cons (pv 5) pa_nil)))))))))
      (pss_one (ps_lock (ps_ret (pe_dc (own := [("key", 7), ("many", 8)]) (g := gTup K 2 (gCons (gName 7) (gCons (gName 8) gNil))) (tt := tTest (tOp rNe (tVar 8) (tC (.int 0)))) (tk := tVar 7) (tv := tVar 8) rfl scMost.nd (pi_items (pv 3))
        (blkOk_by (own := [("key", 7), ("many", 8)]) (N := ["p", "q", "most", "out", "rows", "columns", "at", "key", "many"]) (sc := defScope sMost) (by decide +kernel))
        (fun _ _ _ _ _ => pg_tup rfl (pgs_cons (pg_name (i := 7) scMost.nd rfl (Or.inl rfl)) (pgs_cons (pg_name (i := 8) scMost.nd rfl (Or.inl rfl)) pgs_nil)))
        (fun _ _ _ _ _ => pts_one (pt_cmpR op_ne (pv 8) pe_int (nomark _))) (fun _ _ _ _ _ => pv 7) (fun _ _ _ _ _ => pv 8)))))))), ?_⟩
    intro O nO
    have s1 : Same H (upd H O (.dK [])) := same_new nO
    have hO1 : upd H O (.dK []) O = some (.dK []) := upd_same
    generalize upd H O (.dK []) = H1 at s1 hO1 ⊢
    have dO : d ≠ O := fun z => by rw [← z, hd.1] at nO; cases nO
    -- both sorted
    refine ⟨_, rfl, d, P1, rfl, s1 _ _ hd.1, fun v1 nv1 => ?_⟩
    have s2 : Same H1 (upd H1 v1 (DX.itemsO v1 d)) := same_new nv1
    refine ⟨v1, d, P1, rfl, upd_same, s2 _ _ (s1 _ _ hd.1), fun H3 L4 s3 n4 c4 => ?_⟩
    have s13 : Same H H3 := s1.trans (s2.trans s3)
    have hO3 := s3 _ _ (s2 _ _ hO1)
    refine ⟨_, rfl, e, C, rfl, s13 _ _ he.1, fun v2 nv2 => ?_⟩
    have s4 : Same H3 (upd H3 v2 (DX.itemsO v2 e)) := same_new nv2
    refine ⟨v2, e, C, rfl, upd_same, s4 _ _ (s13 _ _ he.1), fun F0 L5 s5 n5 c5 => ?_⟩
    have c4' := c4.up (s4.trans s5)
    have sF : Same H F0 := s13.trans (s4.trans s5)
    have tF : TabAt F0 O [] := ⟨s5 _ _ (s4 _ _ hO3), List.nodup_nil⟩
    clear s1 s2 s3 s4 s5 s13 hO1 hO3 c4 n4 n5 nv1 nv2
    obtain ⟨zs, h4, lz, at4⟩ := c4'.at
    obtain ⟨ys, h5, ly, at5⟩ := c5.at
    have rp := riseP_perm P1
    have rc := riseP_perm C
    have lrp := rp.length_eq
    have lrc := rc.length_eq
    have L4O : L4 ≠ O := fun z => by rw [z, tF.1] at h4; cases h4
    have L5O : L5 ≠ O := fun z => by rw [z, tF.1] at h5; cases h5
    refine ⟨_, rfl, L4, zs, rfl, SqL.of h4, ?_⟩
    refine for_it (walk_enum (K := K) (a := L4) (xs := zs)) (fun i σ G => ∃ u6 u7 u8 : Option V, σ = [some (.ref d), some (.ref e), some (.int (m : Int)), some (.ref O), some (.ref L4), some (.ref L5), u6, u7, u8] ∧ Oth O F0 G ∧ TabAt G O (prodT ((riseP P1).take i) (riseP C)))
      ⟨_, _, _, rfl, Oth.refl, tF⟩ (fun i σ G _ ⟨_, _, _, _, o, _⟩ => SqL.of (o _ _ L4O h4)) (fun i x σ G G' hi ⟨u6, u7, u8, hσ, o, tG⟩ ⟨T1, x1, x2, ev, nT, eG, hx, hy⟩ => ?_) (fun σ G ⟨u6, u7, u8, hσ, o, tG⟩ => ?_)
    · subst hσ ev eG
      cases hx
      obtain ⟨y, t, hyc, rfl, ht⟩ := at4 i x2 hy
      have ip : i < (riseP P1).length := (List.getElem?_eq_some_iff.mp hyc).1
      have tO : t ≠ O := fun z => by rw [z, tF.1] at ht; cases ht
      have st : Same G (upd G T1 (.tup [.int (i : Nat), .ref t])) := same_new nT
      have hT : upd G T1 (.tup [.int (i : Nat), .ref t]) T1 = some (.tup [.int (i : Nat), .ref t]) := upd_same
      generalize upd G T1 (.tup [.int (i : Nat), .ref t]) = G2 at st hT ⊢
      have o2 := o.trans (Oth.same st)
      have t2 := tG.up st
      clear o tG st
      have lp := len_prodT ((riseP P1).take i) (riseP C)
      rw [List.length_take, Nat.min_eq_left (by omega)] at lp
      have lq : (i + 1) * (riseP C).length ≤ P1.length * C.length := by rw [lrc]; exact Nat.mul_le_mul_right _ (by omega)
      rw [Nat.succ_mul] at lq
      refine ⟨T1, _, rfl, SqT.of hT, rfl, _, _, rfl, _, _, rfl, t, _, rfl, SqT.of (o2 _ _ tO ht), rfl, _, _, rfl, _, _, rfl, rfl, rfl, ?_⟩
      refine ⟨fun σ G => σ = [some (.ref d), some (.ref e), some (.int (m : Int)), some (.ref O), some (.ref L4), some (.ref L5), some (.int (i : Nat)), some (.int y.1), some (.int y.2)] ∧ Oth O F0 G ∧ TabAt G O (prodT ((riseP P1).take i) (riseP C)), ?_, ?_⟩
      · refine ⟨_, rfl, _, _, rfl, rfl, _, rfl, ?_⟩
        refine ite2 (fun _ => ?_) (fun _ => ⟨rfl, o2, t2⟩)
        refine ⟨_, rfl, O, _, rfl, t2.1, _, rfl, _, _, rfl, rfl, _, rfl, ?_⟩
        refine ite2 (fun hlen => ?_) (fun _ => ⟨rfl, o2, t2⟩)
        refine ⟨_, rfl, _, _, rfl, rfl, (by show (0 : Int) < 64; decide), rfl, _, rfl, ?_⟩
        refine ite2 (fun _ => ?_) (fun _ => ⟨rfl, o2, t2⟩)
        have hlen' := of_decide_eq_true hlen
        rw [len_mpT] at hlen'
        obtain ⟨c0, hc0⟩ : ∃ c0, (riseP C)[0]? = some c0 := by
          cases q : riseP C with
          | nil =>
            rw [q] at lp
            simp at lp
            rw [q, lp] at hlen'
            simp at hlen'
            omega
          | cons c r => exact ⟨c, rfl⟩
        have hz0 : ∃ z0, ys[0]? = some z0 := ⟨_, List.getElem?_eq_getElem (by rw [ly]; exact (List.getElem?_eq_some_iff.mp hc0).1)⟩
        obtain ⟨z0, hz0⟩ := hz0
        obtain ⟨c1, t0, hc1, rfl, ht0⟩ := at5 0 z0 hz0
        rw [hc0] at hc1
        cases hc1
        have t0O : t0 ≠ O := fun z => by rw [z, tF.1] at ht0; cases ht0
        refine ⟨_, rfl, _, rfl, _, rfl, L5, _, _, _, rfl, rfl, SqL.of (o2 _ _ L5O h5), (show atI _ ((0 : Nat) : Int) = some _ from atI_nat hz0), t0, _, _, _, rfl, rfl, SqT.of (o2 _ _ t0O ht0), (show atI _ ((0 : Nat) : Int) = some _ from atI_nat rfl), _, _, rfl, rfl, ?_⟩
        refine ⟨O, _, _, rfl, t2, by omega, fun G3 s3 => ?_⟩
        refine ⟨_, rfl, _, _, rfl, rfl, _, rfl, ?_⟩
        refine ite2 (fun hbig => ?_) (fun _ => ⟨rfl, o2.trans (Oth.same s3), t2.up s3⟩)
        have hbig' := of_decide_eq_true hbig
        refine no (fun R pr => ?_) G3 fun x ob q => s3 _ _ (o2 _ _ (fun w => by rw [w, nO] at q; cases q) (sF _ _ q))
        have up := riseP_up hd.2
        have upc := riseP_up he.2
        have pr' : ProdR (riseP P1) (riseP C) R := pr.perm rp.symm rc.symm
        have := low_le (i := i) (b := y.1 + c0.1) pr' fun u hu z hz => ?_
        · omega
        · have h1 : y.1 ≤ u.1 := by
            have hs : (riseP P1).drop i = y :: (riseP P1).drop (i + 1) := by
              rw [List.drop_eq_getElem_cons ip, (List.getElem?_eq_some_iff.mp hyc).2]
            rw [hs] at hu
            rcases List.mem_cons.mp hu with e | hu
            · rw [e]; exact Int.le_refl _
            · have := up.sublist (List.drop_sublist i _)
              rw [hs] at this
              exact Int.le_of_lt ((List.pairwise_cons.mp this).1 u hu)
          have h2 : c0.1 ≤ z.1 := by
            cases q : riseP C with
            | nil => rw [q] at hz; cases hz
            | cons c r =>
              rw [q] at hz hc0 upc
              have ec : c = c0 := by simpa using hc0
              rcases List.mem_cons.mp hz with e | hz
              · rw [e, ec]; exact Int.le_refl _
              · rw [← ec]; exact Int.le_of_lt ((List.pairwise_cons.mp upc).1 z hz)
          omega
      · rintro σ G3 ⟨rfl, o3, t3⟩
        refine ⟨_, rfl, _, rfl, _, rfl, _, rfl, O, L5, y.1, y.2, _, riseP C, a, b, rfl, t3, c5.oth o3 tF.1, by omega, pa y (rp.mem_iff.mp (List.mem_of_getElem? hyc)), fun x hx => cb x (rc.mem_iff.mp hx), a0, b0, ab, fun G4 o4 t4 => ?_⟩
        refine ⟨_, _, _, rfl, o3.trans o4, ?_⟩
        rw [prodT_take hyc]
        exact t4
    · subst hσ
      rw [lz, List.take_length] at tG
      refine ⟨O, _, tG.1, True.intro, fun oe => ?_⟩
      have lp := len_prodT (riseP P1) (riseP C)
      rw [lrp, lrc] at lp
      refine nz_read upd_same tG.2 (by omega) rfl (fun _ _ => rfl) (fun _ _ => rfl) (fun _ _ => rfl) (fun D G6 nD l6 hD => ?_)
      have DO : D ≠ O := fun z => by rw [z, upd_same] at nD; cases nD
      rw [upd_ne DO] at nD
      have sH : ∀ x ob, H x = some ob → G x = some ob := fun x ob q => o _ _ (fun w => by rw [w, nO] at q; cases q) (sF _ _ q)
      refine ⟨l6.1, go D (nzT (prodT (riseP P1) (riseP C))) _ (fun x ob q => ?_) ?_ ⟨(upd_ne DO).trans hD, nodup_nzT tG.2⟩ ((prodR_nz _ _).perm rp rc)⟩
      · have xO : x ≠ O := fun w => by rw [w, nO] at q; cases q
        exact (upd_ne xO).trans (l6.2 _ _ xO ((upd_ne xO).trans (sH _ _ q)))
      · cases q : H D with
        | none => rfl
        | some ob => rw [sH _ _ q] at nD; cases nD
end
end K2P

set_option Elab.async false
set_option linter.all false
set_option maxRecDepth 100000
set_option maxHeartbeats 4000000
set_option autoImplicit false
set_option pp.maxSteps 600
/-! figurehold.tables: number, raised. -/
namespace K2P
open PySem L2 K1D
def numT (k : Int) : KI := if k = 0 then [] else [(0, k)]
def spNumber : Sp := fun vs H Q _ => ∃ k : Int, vs = [.int k] ∧ ∀ (d : Addr) (G : Hp), Same H G → H d = none → TabAt G d (numT k) → Q (.ref d) G
section
variable {P : Program} {w : World} {K : PySem.W.Frag} {mg : Str → Option Value} {base : Heap}
theorem numT_nd (k : Int) : ((numT k).map (·.1)).Nodup := by
  unfold numT
  split <;> simp
end
def powL (P : KI) : Nat → KI
  | 0 => [(0, 1)]
  | n + 1 => prodL (· + ·) P (powL P n)
/-- R is the n-th power of P -/
structure PowR (P : KI) (n : Nat) (R : KI) : Prop where
  nz : ∀ x ∈ R, x.2 ≠ 0
  tot : ∀ j, K2P.tot R j = K2P.tot (powL P n) j
  nd : (R.map (·.1)).Nodup
end K2P

set_option Elab.async false
set_option linter.all false
set_option maxRecDepth 100000
set_option maxHeartbeats 4000000
set_option autoImplicit false
/-! list(d.values()), max(list, default=k). Speaks of no program. -/
namespace K2P
open PySem PySem.Spec PyProof.Rows L2 K1D
def valsO (p d : Addr) : HO := .ext fun h => h.IsValuesView p d
theorem valsO_ok {P : Program} {w : World} {H : Hp} {h : Heap} {p d : Addr} (e : h.get? p = some { cls := .type "dict_values", data := .fields #[.ref d] }) : ObjOk P w H h p (valsO p d) :=
  ⟨⟨_, e, rfl, rfl⟩, ⟨_, e⟩, fun h1 h2 x k => let ⟨o, ho, r⟩ := x; ⟨o, k o ho, r⟩⟩
/-- d.values(), a view -/
def tValsV (td : TE) : TE := fun σ H Q => td σ H fun x G => ∃ (d : Addr) (kvs : List (L2.Key × V)), x = .ref d ∧ G d = some (.dK kvs) ∧ ∀ p, G p = none → Q (.ref p) (upd G p (valsO p d))
theorem pe_valuesV {X : Cx} {e : Expr} {td : TE} {ap cp : Pos} (he : PE X e td) (hbase : attributeBase e "values" X.env (eval e X.env) = eval e X.env := by rfl) (hline : (ap.endLine == cp.line) = true := by rfl) :
    PE X (.Call (.Attribute e "values" ap) [] [] cp) (tValsV td) := ⟨fun pn s τ H Q I h => by
  refine wpAny_Call_method (T := "dict") (id := "dict.values") hbase rfl hline F.plainAttrs_dict F.slot_dict_values F.type_dict_values (thn (he.run pn s τ H _ I h) fun u s1 ⟨x, G, I1, rx, d, kvs, ex, hd, q⟩ => ?_)
  subst ex
  obtain rfl : u = Value.ref d := rx
  obtain ⟨hz, hs, vs, kv, hdo⟩ := dk_of I1.hok hd
  refine ⟨hdo.typeIs, hdo.mapOf.noDict, ?_⟩
  show wpAny _ _ (callWith cp (.builtin "dict.values") [.ref d] [] []) _ X.xe s1
  refine method_meetsIn F.slot_dict_values F.entry_dict_values rfl (PySem.evalArgs_none ⟨rfl, hdo.typeIs, F.args_dict_values_1 _, _, meets_dict_values (mixKind X.prog X.w) d hs, ⟨vs, hdo⟩, ?_⟩)
  exact ⟨.ref s1.heap.objs.size, _, I1.laid (t' := s1.toks) (fun b u e => Heap.get?_push_of_some _ e) (Nat.le_refl _) (valsO_ok (Heap.get?_push_size _ rfl)), rfl, q _ (I1.hok.fresh (Nat.le_refl _))⟩⟩
section
variable {X : Cx}
def rListVals : List V → Hp → VK → Prop := fun xs H Q => ∃ (p d : Addr) (kvs : List (L2.Key × V)), xs = [V.ref p] ∧ H p = some (valsO p d) ∧ H d = some (.dK kvs) ∧ ∀ l, H l = none → Q (.ref l) (upd H l (.lst (kvs.map (·.2))))
theorem call_listVals (hc : X.calm = true) : CallR X (.type "list") rListVals := by
  intro pn s σ H xs us Q I r h
  obtain ⟨p, d, kvs, rfl, hp, hd, q⟩ := h
  obtain ⟨u, rfl, rx⟩ := r.one
  cases rx
  have view : s.heap.IsValuesView p d := (show ObjOk X.prog X.w H s.heap p (valsO p d) from I.hok p _ hp).1
  obtain ⟨hz, hs, vs, kv, hdo⟩ := dk_of I.hok hd
  obtain ⟨ep, hat⟩ := hdo.dictAt
  have lk : kvs.length = vs.length := Paired.length kv
  refine PySem.W.kdl_call (PySem.W.kdl_values (knd := mixKind X.prog X.w) (kvs := vs) (ep := ep)) (I.ok.hd hc) ⟨view, hat⟩ (by omega) fun h' tk acc' c' kp e it => ?_
  have rv : Vals (kvs.map (·.2)) acc'.toList := by
    have la : acc'.toList.length = vs.length := by rw [Array.length_toList]; exact it.1
    have get : ∀ (l : List (L2.Key × V)) (m : List (L2.Key × Value)) (ac : List Value), KV l m → ac.length = m.length → (∀ (j : Nat) (v : Value), ac[j]? = some v → ∃ k, m[j]? = some (k, v)) → Vals (l.map (·.2)) ac := by
      intro l
      induction l with
      | nil =>
        intro m ac h hl _
        cases h
        rw [List.length_eq_zero_iff.mp hl]
        exact .nil
      | cons x l ih =>
        intro m ac h hl hg
        cases h with
        | @cons _ b _ m' r1 rs =>
          cases ac with
          | nil => simp at hl
          | cons v ac =>
            obtain ⟨k, hk⟩ := hg 0 v rfl
            simp only [List.getElem?_cons_zero, Option.some.injEq] at hk
            have r2 := r1.2
            rw [hk] at r2
            exact .cons r2 (ih m' ac rs (by simpa using hl) fun j v hj => by
              obtain ⟨k, hk⟩ := hg (j + 1) v (by simpa using hj)
              exact ⟨k, by simpa using hk⟩)
    exact get kvs vs acc'.toList kv la fun j v hj => it.2 j v (by rw [← Array.getElem?_toList]; exact hj)
  refine ⟨.ref s.heap.objs.size, _, I.laid (t' := tk) (o := .lst (kvs.map (·.2))) kp (Nat.le_refl _) ?_, rfl, q _ (I.hok.fresh (Nat.le_refl _))⟩
  exact ⟨by rw [List.length_map]; exact hz, acc'.toList, c', rv, by rw [Array.toArray_toList]; exact e⟩
/-- the greatest of these, or k -/
def maxI (k : Int) (ns : List Int) : Int := match ns with
  | [] => k
  | n :: ms => ms.foldl (fun a b => if a < b then b else a) n
theorem foldl_max : ∀ (ms : List Int) (n : Int), n ≤ ms.foldl (fun a b => if a < b then b else a) n ∧ (∀ x ∈ ms, x ≤ ms.foldl (fun a b => if a < b then b else a) n) ∧ (ms.foldl (fun a b => if a < b then b else a) n = n ∨ ms.foldl (fun a b => if a < b then b else a) n ∈ ms)
  | [], n => ⟨Int.le_refl _, fun x hx => (by cases hx), .inl rfl⟩
  | b :: ms, n => by
    obtain ⟨h1, h2, h3⟩ := foldl_max ms (if n < b then b else n)
    rw [List.foldl_cons]
    generalize ms.foldl (fun a b => if a < b then b else a) (if n < b then b else n) = r at h1 h2 h3 ⊢
    refine ⟨by split at h1 <;> omega, fun x hx => ?_, ?_⟩
    · rcases List.mem_cons.mp hx with e | hx
      · rw [e]; split at h1 <;> omega
      · exact h2 x hx
    · rcases h3 with h3 | h3
      · split at h3
        · exact .inr (by rw [h3]; exact List.mem_cons_self)
        · exact .inl h3
      · exact .inr (List.mem_cons_of_mem _ h3)
theorem maxI_ge {k : Int} {ns : List Int} : ∀ x ∈ ns, x ≤ maxI k ns := by
  cases ns with
  | nil => intro x hx; cases hx
  | cons n ms =>
    intro x hx
    obtain ⟨h1, h2, _⟩ := foldl_max ms n
    rcases List.mem_cons.mp hx with e | hx
    · rw [e]; exact h1
    · exact h2 x hx
theorem maxI_mem {k : Int} {ns : List Int} : maxI k ns = k ∨ maxI k ns ∈ ns := by
  cases ns with
  | nil => exact .inl rfl
  | cons n ms =>
    obtain ⟨_, _, h3⟩ := foldl_max ms n
    rcases h3 with h3 | h3
    · exact .inr (by show ms.foldl _ n ∈ _; rw [h3]; exact List.mem_cons_self)
    · exact .inr (List.mem_cons_of_mem _ h3)
def rMaxDef (K : PySem.W.Frag) : List V → List V → Hp → VK → Prop := fun xs zs H Q => ∃ (a : Addr) (ns : List Int) (k : Int), xs = [.ref a] ∧ zs = [.int k] ∧ SqL K H a (ns.map V.int) ∧ Q (.int (maxI k ns)) H
theorem holds_ints {h : Heap} : ∀ {ns : List Int} {us : List Value}, Vals (ns.map V.int) us → PySem.W.HoldAll h us ns
  | [], _, r => by cases r; exact ⟨[], .nil⟩
  | n :: ns, _, r => by
    cases r with
    | cons r1 r2 =>
      obtain ⟨t, rfl⟩ := r1
      obtain ⟨as, h2⟩ := holds_ints (h := h) r2
      exact ⟨as, ReadsAll.cons (Reads.int n t) h2⟩
theorem cr_maxDef (hc : X.calm = true) (hu : X.A.units + 64 < cLine) : CallRK X (.builtin "max") [Str.ofString "default"] (rMaxDef X.K) := by
  intro pn s σ H xs zs us ws Q I rx rz h
  obtain ⟨a, ns, k, rfl, rfl, hs, q⟩ := h
  obtain ⟨its, rv, hl, _⟩ := I.list hs
  rw [Vals.ref1 rx]
  obtain ⟨d, rfl, rd⟩ := rz.one
  obtain ⟨td, rfl⟩ := rd
  refine PySem.W.max_list_datum_default (α := Int) (xs := ns) (I.ok.hd hc) hl.isList (holds_ints rv) (by show X.A.units + 1 + 0 < cLine; omega) (fun e h' tk hk => ?_) fun y ys i v h' tk e hi hv hk => ?_
  · subst e
    exact ⟨.int k, H, I.kept (t' := tk) hk, ⟨_, rfl⟩, q⟩
  · subst e
    have ev : ∃ t, v = .int (PySem.W.maxOf y ys) t := by
      obtain ⟨as, r⟩ := hv
      have r : Reads h' v (.int (PySem.W.maxOf y ys)) as := r
      cases r
      exact ⟨_, rfl⟩
    obtain ⟨t, rfl⟩ := ev
    have em : PySem.W.maxOf y ys = maxI k (y :: ys) := by
      show ys.foldl _ y = ys.foldl _ y
      congr 1
      funext a b
      show (if decide (a < b) = true then b else a) = _
      by_cases c : a < b <;> simp [c]
    exact ⟨.int (PySem.W.maxOf y ys), H, I.kept (t' := tk) hk, ⟨_, rfl⟩, by rw [em]; exact q⟩
end
end K2P

set_option Elab.async false
set_option linter.all false
set_option maxRecDepth 100000
set_option maxHeartbeats 4000000
set_option autoImplicit false
/-! A list or a tuple, whichever; polynomials of such. Speaks of no program. -/
namespace L2
open PySem PySem.Spec PyProof.Rows
/-- a list (b) or a tuple -/
def SqB (b : Bool) (K : PySem.W.Frag) (H : Hp) (a : Addr) (xs : List V) : Prop := if b = true then SqL K H a xs else SqT K H a xs
def ItB (b : Bool) (K : PySem.W.Frag) (a : Addr) : It := if b = true then Itl K a else Itt K a
def iSeqB (b : Bool) (K : PySem.W.Frag) (te : TE) : TI := if b = true then iList K te else iTup K te
theorem pi_seqB {X : Cx} {tg l : Expr} {te : TE} (b : Bool) (hl : PE X l te) : PI X tg l (iSeqB b X.K te) := by
  cases b
  · exact pi_tup hl
  · exact pi_list hl
theorem walk_seqB {K : PySem.W.Frag} {a : Addr} {xs : List V} (b : Bool) : Walk (ItB b K a) xs.length (fun H => SqB b K H a xs) (YAt xs) := by
  cases b
  · exact walk_tup
  · exact walk_list
theorem seqB_go {b : Bool} {K : PySem.W.Frag} {i : Nat} {σ : St} {H : Hp} {R : It → Hp → Prop} {a : Addr} {xs : List V} (hs : σ[i]? = some (some (.ref a))) (h : SqB b K H a xs) (r : R (ItB b K a) H) : iSeqB b K (tVar i) σ H R := by
  cases b
  · exact ⟨_, hs, a, rfl, ⟨xs, h⟩, r⟩
  · exact ⟨_, hs, a, rfl, ⟨xs, h⟩, r⟩
def gSeqB (b : Bool) (K : PySem.W.Frag) (n : Nat) (t : TGs) : TG := if b = true then gLst K n t else gTup K n t
theorem pg_seqB {X : Cx} {pos : Pos} {es : List Expr} {k : Nat} {t : TGs} {n : Nat} (b : Bool) (hc : X.calm = true) (h : PGs X es t) (hn : (assignEach es X.env).length = n := by rfl) (hst : (assignEach es X.env).findIdx? (·.1) = none := by rfl) : PG X (.Tuple es k pos) (gSeqB b X.K n t) := by
  cases b
  · exact pg_tup hc h hn hst
  · exact pg_lst hc h hn hst
theorem gseqB_go {b : Bool} {K : PySem.W.Frag} {n : Nat} {t : TGs} {a : Addr} {xs : List V} {σ : St} {H : Hp} {R : St → Hp → Prop} (h : SqB b K H a xs) (l : xs.length = n) (r : t xs σ H R) : gSeqB b K n t (.ref a) σ H R := by
  cases b
  · exact ⟨a, xs, rfl, h, l, r⟩
  · exact ⟨a, xs, rfl, h, l, r⟩
/-- lists and tuples stay -/
def Keeps (K : PySem.W.Frag) (H G : Hp) : Prop := ∀ (b : Bool) (a : Addr) (xs : List V), SqB b K H a xs → SqB b K G a xs
theorem Keeps.refl {K : PySem.W.Frag} {H : Hp} : Keeps K H H := fun _ _ _ h => h
theorem Keeps.trans {K : PySem.W.Frag} {H G F : Hp} (h : Keeps K H G) (g : Keeps K G F) : Keeps K H F := fun b a xs q => g b a xs (h b a xs q)
theorem Keeps.same {K : PySem.W.Frag} {H G : Hp} (s : Same H G) : Keeps K H G := fun b a xs h => by
  cases b
  · rcases h with (h | ⟨o, h⟩) | h
    · exact .inl (.inl (s _ _ h))
    · exact .inl (.inr ⟨o, s _ _ h⟩)
    · exact .inr h
  · rcases h with (h | ⟨o, h⟩) | h
    · exact .inl (.inl (s _ _ h))
    · exact .inl (.inr ⟨o, s _ _ h⟩)
    · exact .inr h
end L2
namespace K2P
open PySem L2 K1D
theorem Keeps.oth {K : PySem.W.Frag} {H G : Hp} {d : Addr} {kvs : List (Key × V)} (s : Oth d H G) (hd : H d = some (.dK kvs)) : Keeps K H G := fun b a xs h => by
  cases b
  · rcases h with (h | ⟨o, h⟩) | h
    · exact .inl (.inl (s _ _ (fun z => by rw [z, hd] at h; cases h) h))
    · exact .inl (.inr ⟨o, s _ _ (fun z => by rw [z, hd] at h; cases h) h⟩)
    · exact .inr h
  · rcases h with (h | ⟨o, h⟩) | h
    · exact .inl (.inl (s _ _ (fun z => by rw [z, hd] at h; cases h) h))
    · exact .inl (.inr ⟨o, s _ _ (fun z => by rw [z, hd] at h; cases h) h⟩)
    · exact .inr h
def AllV {β : Type} (R : β → V → Prop) (bs : List β) (vs : List V) : Prop := vs.length = bs.length ∧ ∀ (i : Nat) (x : β) (v : V), bs[i]? = some x → vs[i]? = some v → R x v
theorem AllV.get {β : Type} {R : β → V → Prop} {bs : List β} {vs : List V} (h : AllV R bs vs) {i : Nat} {v : V} (e : vs[i]? = some v) : ∃ x, bs[i]? = some x ∧ R x v := by
  have lt : i < bs.length := by rw [← h.1]; exact (List.getElem?_eq_some_iff.mp e).1
  exact ⟨bs[i], List.getElem?_eq_getElem lt, h.2 i _ v (List.getElem?_eq_getElem lt) e⟩
theorem AllV.mono {β : Type} {R S : β → V → Prop} {bs : List β} {vs : List V} (h : AllV R bs vs) (f : ∀ x v, R x v → S x v) : AllV S bs vs := ⟨h.1, fun i x v a b => f x v (h.2 i x v a b)⟩
abbrev Fac := Str × Int
abbrev Mon := List Fac
abbrev Term := Mon × Int
abbrev Poly := List Term
def FacB (b : Bool) (K : PySem.W.Frag) (H : Hp) (f : Fac) (v : V) : Prop := ∃ t, v = .ref t ∧ SqB b K H t [.str f.1, .int f.2]
def MonB (b : Bool) (K : PySem.W.Frag) (H : Hp) (m : Mon) (v : V) : Prop := ∃ t xs, v = .ref t ∧ SqB b K H t xs ∧ AllV (FacB b K H) m xs
def TermB (b : Bool) (K : PySem.W.Frag) (H : Hp) (t : Term) (v : V) : Prop := ∃ q u, v = .ref q ∧ SqB b K H q [u, .int t.2] ∧ MonB b K H t.1 u
/-- the outer sequence of kind c, all within of kind b -/
def PolyC (c b : Bool) (K : PySem.W.Frag) (H : Hp) (p : Poly) (a : Addr) : Prop := ∃ xs, SqB c K H a xs ∧ AllV (TermB b K H) p xs
abbrev PolyB (b : Bool) (K : PySem.W.Frag) (H : Hp) (p : Poly) (a : Addr) : Prop := PolyC b b K H p a
section
variable {b : Bool} {K : PySem.W.Frag} {H G : Hp}
theorem FacB.keep {f : Fac} {v : V} (h : FacB b K H f v) (k : Keeps K H G) : FacB b K G f v := by
  obtain ⟨t, e, s⟩ := h
  exact ⟨t, e, k _ _ _ s⟩
theorem MonB.keep {m : Mon} {v : V} (h : MonB b K H m v) (k : Keeps K H G) : MonB b K G m v := by
  obtain ⟨t, xs, e, s, a⟩ := h
  exact ⟨t, xs, e, k _ _ _ s, a.mono fun _ _ q => q.keep k⟩
theorem TermB.keep {t : Term} {v : V} (h : TermB b K H t v) (k : Keeps K H G) : TermB b K G t v := by
  obtain ⟨q, u, e, s, m⟩ := h
  exact ⟨q, u, e, k _ _ _ s, m.keep k⟩
theorem PolyC.keep {c : Bool} {p : Poly} {a : Addr} (h : PolyC c b K H p a) (k : Keeps K H G) : PolyC c b K G p a := by
  obtain ⟨xs, s, m⟩ := h
  exact ⟨xs, k _ _ _ s, m.mono fun _ _ q => q.keep k⟩
/-! ### tuples, as keys -/
def facK (x : Fac) : NestedKey := .tup [.text x.1, .num x.2]
def monK (m : Mon) : NestedKey := .tup (m.map facK)
def termK (t : Term) : NestedKey := .tup [monK t.1, .num t.2]
def polyK (p : Poly) : NestedKey := .tup (p.map termK)
theorem kv_fac {f : Fac} {v : V} : KeyV K H (facK f) v ↔ ∃ p : Addr, v = .ref p ∧ H p = some (.tup [.str f.1, .int f.2]) := by
  constructor
  · intro h
    cases h with
    | @tup a xs ks h1 h2 =>
      cases h2 with
      | cons h2 h3 =>
        cases h3 with
        | cons h3 h4 =>
          cases h4
          cases h3
          cases h2
          exact ⟨a, rfl, h1⟩
    | frz h1 h3 h2 => exact absurd (h3 (.num f.2) (by simp)) fun ⟨l, e⟩ => nomatch e
  · rintro ⟨p, rfl, h⟩
    exact .tup h (.cons (.str _) (.cons (.int _) .nil))
theorem kv_mon {m : Mon} {v : V} : KeyV K H (monK m) v ↔ ∃ (p : Addr) (xs : List V), v = .ref p ∧ Rd H p (.tup xs) ∧ KeyVs K H (m.map facK) xs := by
  constructor
  · intro h
    cases h with
    | @tup a xs ks h1 h2 => exact ⟨a, xs, rfl, .inl h1, h2⟩
    | @frz a o xs ks h1 h3 h2 => exact ⟨a, xs, rfl, .inr ⟨o, h1⟩, h2⟩
  · rintro ⟨p, xs, rfl, h1, h2⟩
    exact h1.elim (fun h1 => .tup h1 h2) fun ⟨o, h1⟩ => .frz h1 (fun k hk => by
      obtain ⟨y, _, rfl⟩ := List.mem_map.mp hk
      exact ⟨_, rfl⟩) h2
theorem kv_term {t : Term} {v : V} : KeyV K H (termK t) v ↔ ∃ (p : Addr) (u : V), v = .ref p ∧ H p = some (.tup [u, .int t.2]) ∧ KeyV K H (monK t.1) u := by
  constructor
  · intro h
    cases h with
    | @tup a xs ks h1 h2 =>
      cases h2 with
      | cons h2 h3 =>
        cases h3 with
        | cons h3 h4 =>
          cases h4
          cases h3
          exact ⟨a, _, rfl, h1, h2⟩
    | frz h1 h3 h2 => exact absurd (h3 (.num t.2) (by simp)) fun ⟨l, e⟩ => nomatch e
  · rintro ⟨p, u, rfl, h1, h2⟩
    exact .tup h1 (.cons h2 (.cons (.int _) .nil))
theorem kv_poly {p : Poly} {v : V} : KeyV K H (polyK p) v ↔ ∃ (a : Addr) (xs : List V), v = .ref a ∧ Rd H a (.tup xs) ∧ KeyVs K H (p.map termK) xs := by
  constructor
  · intro h
    cases h with
    | @tup a xs ks h1 h2 => exact ⟨a, xs, rfl, .inl h1, h2⟩
    | @frz a o xs ks h1 h3 h2 => exact ⟨a, xs, rfl, .inr ⟨o, h1⟩, h2⟩
  · rintro ⟨a, xs, rfl, h1, h2⟩
    exact h1.elim (fun h1 => .tup h1 h2) fun ⟨o, h1⟩ => .frz h1 (fun k hk => by
      obtain ⟨y, _, rfl⟩ := List.mem_map.mp hk
      exact ⟨_, rfl⟩) h2
theorem allV_keys {β : Type} {enc : β → NestedKey} {R : β → V → Prop} (f : ∀ x v, KeyV K H (enc x) v → R x v) {bs : List β} {vs : List V} (h : KeyVs K H (bs.map enc) vs) : AllV R bs vs := by
  refine ⟨by rw [keyVs_len h, List.length_map], fun i x v ex ev => ?_⟩
  obtain ⟨k, hk, kv⟩ := keyVs_get h ev
  rw [List.getElem?_map, ex] at hk
  cases hk
  exact f x v kv
theorem polyB_of {p : Poly} {a : Addr} (h : KeyV K H (polyK p) (.ref a)) : PolyB false K H p a := by
  obtain ⟨a', xs, e, h1, h2⟩ := kv_poly.mp h
  cases e
  refine ⟨xs, .inl h1, allV_keys (fun t v kt => ?_) h2⟩
  obtain ⟨q, u, rfl, h3, h4⟩ := kv_term.mp kt
  refine ⟨q, u, rfl, SqT.of h3, ?_⟩
  obtain ⟨m, ms, rfl, h5, h6⟩ := kv_mon.mp h4
  refine ⟨m, ms, rfl, .inl h5, allV_keys (fun f v kf => ?_) h6⟩
  obtain ⟨r, rfl, h7⟩ := kv_fac.mp kf
  exact ⟨r, rfl, SqT.of h7⟩
end
end K2P

set_option Elab.async false
set_option linter.all false
set_option maxRecDepth 100000
set_option maxHeartbeats 4000000
set_option autoImplicit false
set_option pp.maxSteps 600
/-! figurehold.replacing: degrees, greatest_exponent. -/
namespace K2P
open PySem L2 K1D
abbrev sDeg : Stmt := top 16
abbrev KS := List (Str × Int)
/-- the greatest exponents of these factors, by names -/
structure DegF (fs : List Fac) (D : KS) : Prop where
  nd : (D.map (·.1)).Nodup
  keys : ∀ x, x ∈ D.map (·.1) ↔ ∃ f ∈ fs, f.1 = x
  ge : ∀ f ∈ fs, f.2 ≤ getT D f.1
  at_ : ∀ x ∈ D.map (·.1), ∃ f ∈ fs, f.1 = x ∧ f.2 = getT D x
  len : D.length ≤ fs.length
theorem DegF.nil : DegF [] [] := ⟨List.nodup_nil, fun x => ⟨fun h => (by cases h), fun ⟨f, h, _⟩ => (by cases h)⟩, fun f h => (by cases h), fun x h => (by cases h), Nat.le_refl _⟩
theorem DegF.out {fs : List Fac} {D : KS} (h : DegF fs D) {x : Str} (n : x ∉ D.map (·.1)) : getT D x = 0 := by
  unfold getT
  rw [valT_none.mpr n]
  rfl
theorem DegF.step {fs : List Fac} {D : KS} (h : DegF fs D) {f : Fac} (f1 : 1 ≤ f.2) : DegF (fs ++ [f]) (putT D f.1 (if getT D f.1 > f.2 then getT D f.1 else f.2)) := by
  have g : ∀ x, getT (putT D f.1 (if getT D f.1 > f.2 then getT D f.1 else f.2)) x = if x = f.1 then (if getT D f.1 > f.2 then getT D f.1 else f.2) else getT D x := fun x => getT_put _ _ _ _
  refine ⟨nodup_putT h.nd _ _, fun x => ?_, fun e he => ?_, fun x hx => ?_, ?_⟩
  · rw [mem_keys_putT, h.keys]
    constructor
    · rintro (⟨e, he, q⟩ | q)
      · exact ⟨e, List.mem_append_left _ he, q⟩
      · exact ⟨f, List.mem_append_right _ (List.mem_singleton.mpr rfl), q.symm⟩
    · rintro ⟨e, he, q⟩
      rcases List.mem_append.mp he with he | he
      · exact .inl ⟨e, he, q⟩
      · rw [List.mem_singleton.mp he] at q
        exact .inr q.symm
  · rw [g]
    rcases List.mem_append.mp he with he | he
    · have := h.ge e he
      by_cases q : e.1 = f.1
      · rw [if_pos q]
        rw [q] at this
        split <;> omega
      · rw [if_neg q]; exact this
    · rw [List.mem_singleton.mp he, if_pos rfl]
      split <;> omega
  · rw [g]
    by_cases q : x = f.1
    · rw [if_pos q]
      by_cases c : getT D f.1 > f.2
      · rw [if_pos c]
        have hx2 : f.1 ∈ D.map (·.1) := Classical.byContradiction fun n => by
          rw [h.out n] at c
          omega
        obtain ⟨e, he, e1, e2⟩ := h.at_ _ hx2
        exact ⟨e, List.mem_append_left _ he, e1.trans q.symm, e2⟩
      · rw [if_neg c]
        exact ⟨f, List.mem_append_right _ (List.mem_singleton.mpr rfl), q.symm, rfl⟩
    · rw [if_neg q]
      obtain ⟨e, he, e1, e2⟩ := h.at_ x ((mem_keys_putT.mp hx).resolve_right q)
      exact ⟨e, List.mem_append_left _ he, e1, e2⟩
  · have := len_putT D f.1 (if getT D f.1 > f.2 then getT D f.1 else f.2)
    have := h.len
    rw [List.length_append]
    show _ ≤ fs.length + 1
    omega
def facs (p : Poly) : List Fac := p.flatMap (·.1)
theorem facs_take {p : Poly} {i : Nat} {t : Term} (h : p[i]? = some t) : facs (p.take (i + 1)) = facs (p.take i) ++ t.1 := by
  unfold facs
  rw [take_snoc h, List.flatMap_append, List.flatMap_singleton]
theorem mem_facs {p : Poly} {f : Fac} : f ∈ facs p ↔ ∃ t ∈ p, f ∈ t.1 := List.mem_flatMap
theorem facs_part {p : Poly} {i : Nat} {t : Term} (h : p[i]? = some t) (j : Nat) : (facs (p.take i) ++ t.1.take j).length ≤ (facs p).length := by
  have e : facs p = facs (p.take (i + 1)) ++ facs (p.drop (i + 1)) := by
    unfold facs
    rw [← List.flatMap_append, List.take_append_drop]
  rw [e, facs_take h, List.length_append, List.length_append, List.length_append, List.length_take]
  omega
def DictS (H : Hp) (d : Addr) (D : KS) : Prop := H d = some (.dK (mpT eS D))
def spDeg (K : PySem.W.Frag) : Sp := fun vs H Q _ => ∃ (c b : Bool) (a : Addr) (p : Poly), vs = [.ref a] ∧ PolyC c b K H p a ∧ (∀ f ∈ facs p, 1 ≤ f.2) ∧ (facs p).length < sizeLine ∧
  ∀ (d : Addr) (D : KS) (G : Hp), Same H G → H d = none → DictS G d D → DegF (facs p) D → Q (.ref d) G
structure DegTxt (mg : Str → Option Value) : Prop where
  max : mg "max" = none
  list : mg "list" = none
section
variable {P : Program} {w : World} {K : PySem.W.Frag} {mg : Str → Option Value} {base : Heap}
theorem scDeg : FnScope ["p", "found", "monomial", "_", "name", "exponent"] ["p"] (defScope sDeg) := ⟨rfl, rfl, rfl, by decide +kernel, rfl, by decide +kernel, by decide +kernel⟩
theorem ok_deg {f : Addr} {fd : FuncData} (F : Fun K "degrees" "degrees" sDeg f fd) (T : DegTxt mg) : FnOk P w K mg base CX0 1 f fd ["p"] (spDeg K) := by
  refine F.ok scDeg (fun vs H Q E h => ?_) (fun cdv A outer s H vs Q E hr h => ?_)
  · obtain ⟨bo, b, a, p, rfl, _⟩ := h
    rfl
  · obtain ⟨bo, b, a, p, rfl, hp, f1, hl, go⟩ := h
    refine ⟨_, (pss_cons (ps_set (i := 1) scDeg.nd rfl (Or.inl rfl) pe_dnewK)
      (pss_cons (ps_for PassesOwn.never rfl (pi_seqB bo (pv 0)) (pg_seqB b rfl (pgs_cons (pg_name (i := 2) scDeg.nd rfl (Or.inl rfl)) (pgs_cons (pg_name (i := 3) scDeg.nd rfl (Or.inl rfl)) pgs_nil))) (pss_one (ps_for PassesOwn.never rfl (pi_seqB b (pv 2)) (pg_seqB b rfl (pgs_cons (pg_name (i := 4) scDeg.nd rfl (Or.inl rfl)) (pgs_cons (pg_name (i := 5) scDeg.nd rfl (Or.inl rfl)) pgs_nil))) (pss_one (ps_dput (hu1 hr) (pv 1) (pv 4) (pe_callB (call_max2 rfl) (by rfl) T.max (by decide +kernel) (pa_cons (pv 5) (pa_cons (pe_dget2 (hu1 hr) (pv 1) (pv 4) pe_int ⟨rfl, rfl, rfl, rfl⟩) pa_nil))) rfl)))))
      (pss_one (ps_ret (pv 1))))), ?_⟩
    intro d nd
    obtain ⟨xs, hx, ax⟩ := hp
    have s1 : Same H (upd H d (.dK [])) := same_new nd
    have hx1 := Keeps.same (K := K) s1 _ _ _ hx
    refine seqB_go rfl hx1 ?_
    have d1 : DictS (upd H d (.dK [])) d [] := upd_same
    generalize upd H d (.dK []) = F0 at s1 hx1 d1 ⊢
    refine for_it (walk_seqB bo) (fun i σ G => ∃ (u2 u3 u4 u5 : Option V) (D : KS), σ = [some (.ref a), some (.ref d), u2, u3, u4, u5] ∧ Oth d F0 G ∧ DictS G d D ∧ DegF (facs (p.take i)) D)
      ⟨_, _, _, _, [], rfl, Oth.refl, d1, DegF.nil⟩ (fun i σ G _ ⟨_, _, _, _, _, _, o, _⟩ => Keeps.oth o d1 _ _ _ hx1) (fun i x σ G G' hi ⟨u2, u3, u4, u5, D, hσ, o, hD, dg⟩ ⟨e, hv⟩ => ?_) (fun σ G ⟨u2, u3, u4, u5, D, hσ, o, hD, dg⟩ => ?_)
    · subst hσ e
      obtain ⟨t, ht, q, u, rfl, hq, m, ms, rfl, hm, am⟩ := ax.get hv
      have k0 : Keeps K H G' := (Keeps.same s1).trans (Keeps.oth o d1)
      refine gseqB_go (k0 _ _ _ hq) rfl ⟨_, _, rfl, _, _, rfl, rfl, ?_⟩
      refine seqB_go rfl (k0 _ _ _ hm) ?_
      refine for_it (walk_seqB b) (fun j σ G => ∃ (u4 u5 : Option V) (D : KS), σ = [some (.ref a), some (.ref d), some (.ref m), some (.int t.2), u4, u5] ∧ Oth d F0 G ∧ DictS G d D ∧ DegF (facs (p.take i) ++ t.1.take j) D)
        ⟨_, _, D, rfl, o, hD, by rw [List.take_zero, List.append_nil]; exact dg⟩ (fun j σ G _ ⟨_, _, _, _, o, _⟩ => (Keeps.same s1).trans (Keeps.oth o d1) _ _ _ hm) (fun j y σ G1 G2 hj ⟨u4, u5, D, hσ, o, hD, dg⟩ ⟨e, hy⟩ => ?_) (fun σ G1 ⟨u4, u5, D, hσ, o, hD, dg⟩ => ?_)
      · subst hσ e
        obtain ⟨fc, hf, c, rfl, hc⟩ := am.get hy
        have k1 : Keeps K H G2 := (Keeps.same s1).trans (Keeps.oth o d1)
        have fm : fc ∈ facs p := mem_facs.mpr ⟨t, List.mem_of_getElem? ht, List.mem_of_getElem? hf⟩
        have lp := facs_part ht j
        have ld := dg.len
        have gd := DGet.k (k := eS fc.1) hD
        refine gseqB_go (k1 _ _ _ hc) rfl ⟨_, _, rfl, _, _, rfl, rfl, ?_⟩
        refine ⟨_, rfl, _, rfl, d, rfl, .inl ⟨_, .inl hD⟩, _, rfl, _, gd, ?_⟩
        rw [getD_mpT eS_inj]
        refine ⟨_, _, rfl, _, rfl, _, rfl, d, _, rfl, DPut.k (k := eS fc.1) hD (by rw [len_mpT]; omega), ?_⟩
        rw [putK_mpT eS_inj]
        refine ⟨_, _, _, rfl, o.trans Oth.put, upd_same, ?_⟩
        rw [take_snoc hf, ← List.append_assoc]
        exact dg.step (f1 fc fm)
      · subst hσ
        refine ⟨_, _, _, _, D, rfl, o, hD, ?_⟩
        rw [am.1, List.take_length] at dg
        rw [facs_take ht]
        exact dg
    · subst hσ
      rw [ax.1, List.take_length] at dg
      exact ⟨_, rfl, go d D G (fun x ob q => o _ _ (fun z => by rw [z, nd] at q; cases q) (s1 _ _ q)) nd hD dg⟩
abbrev sGreatest : Stmt := top 17
structure DegsTxt (P : Program) (w : World) (K : PySem.W.Frag) (mg : Str → Option Value) (base : Heap) (fG : Addr) (dG : FuncData) : Prop where
  ok : FnOk P w K mg base CX0 1 fG dG ["p"] (spDeg K)
  b : Binds K dG ["p"] []
  g : mg "degrees" = some (.ref fG)
  k : PySem.W.keepIn K (.ref fG) = true
/-- m is the greatest exponent of these factors -/
def Greatest (fs : List Fac) (m : Int) : Prop := (∀ f ∈ fs, f.2 ≤ m) ∧ (m = 0 ∨ ∃ f ∈ fs, f.2 = m)
theorem DegF.greatest {fs : List Fac} {D : KS} (h : DegF fs D) : Greatest fs (maxI 0 (D.map (·.2))) := by
  have val : ∀ y ∈ D, getT D y.1 = y.2 := fun y hy => by
    unfold getT
    rw [(valT_mem h.nd).mpr (show (y.1, y.2) ∈ D from hy)]
    rfl
  constructor
  · intro f hf
    obtain ⟨y, hy, e⟩ := List.mem_map.mp ((h.keys f.1).mpr ⟨f, hf, rfl⟩)
    have h1 := h.ge f hf
    rw [← e, val y hy] at h1
    exact Int.le_trans h1 (maxI_ge _ (List.mem_map.mpr ⟨y, hy, rfl⟩))
  · rcases maxI_mem (k := 0) (ns := D.map (·.2)) with e | e
    · exact .inl e
    · obtain ⟨y, hy, e2⟩ := List.mem_map.mp e
      obtain ⟨f, hf, e3, e4⟩ := h.at_ y.1 (List.mem_map.mpr ⟨y, hy, rfl⟩)
      exact .inr ⟨f, hf, by rw [e4, val y hy, e2]⟩
def spGreatest (K : PySem.W.Frag) : Sp := fun vs H Q _ => ∃ (c b : Bool) (a : Addr) (p : Poly), vs = [.ref a] ∧ PolyC c b K H p a ∧ (∀ f ∈ facs p, 1 ≤ f.2) ∧ (facs p).length < sizeLine ∧ ∀ (m : Int) (G : Hp), Same H G → Greatest (facs p) m → Q (.int m) G
theorem scGreatest : FnScope ["p"] ["p"] (defScope sGreatest) := ⟨rfl, rfl, rfl, by decide +kernel, rfl, by decide +kernel, by decide +kernel⟩
theorem ok_greatest {f fG : Addr} {fd dG : FuncData} (F : Fun K "greatest_exponent" "greatest_exponent" sGreatest f fd) (T : DegTxt mg) (U : DegsTxt P w K mg base fG dG) : FnOk P w K mg base CX0 2 f fd ["p"] (spGreatest K) := by
  refine F.ok scGreatest (fun vs H Q E h => ?_) (fun cdv A outer s H vs Q E hr h => ?_)
  · obtain ⟨bo, b, a, p, rfl, _⟩ := h
    rfl
  · obtain ⟨bo, b, a, p, rfl, hp, f1, hl, go⟩ := h
    refine ⟨_, (pss_one (ps_ret (pe_callBK (cr_maxDef rfl hr.units) (by rfl) T.max (by decide +kernel) (pa_cons (pe_callTy (call_listVals rfl) (by rfl) T.list (by decide +kernel) (pa_cons (pe_valuesV (pe_call U.ok (hr) rfl U.g U.k U.b .nil pass0 (pa_cons (pv 0) pa_nil))) pa_nil)) pa_nil) (pk_cons pe_int pk_nil)))), ?_⟩
    refine ⟨_, rfl, bo, b, a, p, rfl, hp, f1, hl, fun d D G s nd hD dg => ?_⟩
    refine ⟨d, _, rfl, hD, fun v nv => ⟨v, d, _, rfl, upd_same, (same_new nv) _ _ hD, fun l nl => ?_⟩⟩
    have e : (mpT eS D).map (·.2) = (D.map (·.2)).map V.int := by
      unfold mpT
      rw [List.map_map, List.map_map]
      rfl
    exact ⟨l, D.map (·.2), 0, rfl, rfl, by rw [e]; exact SqL.of upd_same, go _ _ (s.trans ((same_new nv).trans (same_new nl))) dg.greatest⟩
end
end K2P

set_option Elab.async false
set_option linter.all false
set_option maxRecDepth 100000
set_option maxHeartbeats 4000000
set_option autoImplicit false
set_option pp.maxSteps 600
/-! figurehold.fields: a new Fields. -/
namespace K2P
open PySem L2 K1D
abbrev sFInit : Stmt := inClass (top 8) 0
def wts (r n : Nat) : List V := (List.range (n + 1)).map fun i => V.int ((r ^ i : Nat) : Int)
theorem wts_succ (r n : Nat) : wts r (n + 1) = wts r n ++ [V.int ((r ^ (n + 1) : Nat) : Int)] := by
  unfold wts
  rw [List.range_succ, List.map_append]
  rfl
theorem wts_len (r n : Nat) : (wts r n).length = n + 1 := by
  unfold wts
  rw [List.length_map, List.length_range]
theorem wts_last (r n : Nat) : atI (wts r n) (-1) = some (V.int ((r ^ n : Nat) : Int)) := by
  cases n with
  | zero => rfl
  | succ n =>
    rw [wts_succ]
    exact atI_last _ _
theorem wts_at {r n i : Nat} (h : i ≤ n) : (wts r n)[i]? = some (V.int ((r ^ i : Nat) : Int)) := by
  unfold wts
  rw [List.getElem?_map, List.getElem?_range (by omega)]
  rfl
def plT (ns : List Str) : KS := ns.zipIdx.map fun x => (x.1, (x.2 : Int))
theorem plT_snoc (ns : List Str) (x : Str) : plT (ns ++ [x]) = plT ns ++ [(x, (ns.length : Int))] := by
  unfold plT
  rw [List.zipIdx_append, List.map_append]
  simp
theorem plT_keys (ns : List Str) : (plT ns).map (·.1) = ns := by
  unfold plT
  rw [List.map_map]
  exact List.zipIdx_map_fst 0 ns
theorem plT_len (ns : List Str) : (plT ns).length = ns.length := by
  unfold plT
  rw [List.length_map, List.length_zipIdx]
theorem putS_new {D : KS} {k : Str} {c : Int} (h : k ∉ D.map (·.1)) : putT D k c = D ++ [(k, c)] := by
  unfold putT
  rw [valT_none.mpr h]
  rfl
theorem plT_at {ns : List Str} (nd : ns.Nodup) {i : Nat} {x : Str} (h : ns[i]? = some x) : valT (plT ns) x = some (i : Int) := by
  rw [valT_mem (by rw [plT_keys]; exact nd)]
  unfold plT
  refine List.mem_map.mpr ⟨(x, i), ?_, rfl⟩
  rw [List.mem_zipIdx_iff_getElem?]
  exact h
/-- a Fields's own attributes -/
def fF (l1 l2 l3 : Addr) : List (Str × V) := [("names", .ref l1), ("weights", .ref l2), ("places", .ref l3)]
theorem nw : ¬ (("names" : Str) = "weights") := by decide +kernel
theorem np : ¬ (("names" : Str) = "places") := by decide +kernel
theorem wp : ¬ (("weights" : Str) = "places") := by decide +kernel
theorem f_names {l : List (Str × V)} {x : V} : (((("names" : Str), x) :: l).lookup ("names" : Str)) = some x := by simp [List.lookup]
theorem f_weights {l : List (Str × V)} {x y : V} : (((("names" : Str), x) :: (("weights" : Str), y) :: l).lookup ("weights" : Str)) = some y := by
  have h : (("weights" : Str) == "names") = false := by decide +kernel
  simp [List.lookup, h]
theorem f_places {l : List (Str × V)} {x y z : V} : (((("names" : Str), x) :: (("weights" : Str), y) :: (("places" : Str), z) :: l).lookup ("places" : Str)) = some z := by
  have h : (("places" : Str) == "names") = false := by decide +kernel
  have h2 : (("places" : Str) == "weights") = false := by decide +kernel
  simp [List.lookup, h, h2]
theorem put1 (x : V) : putF "names" x [] = ([("names", x)] : List (Str × V)) := rfl
theorem put2 (x y : V) : putF "weights" y ([("names", x)] : List (Str × V)) = ([("names", x), ("weights", y)] : List (Str × V)) := by
  show (if ("names" : Str) = "weights" then [(("names" : Str), y)] else (("names" : Str), x) :: putF "weights" y []) = ([("names", x), ("weights", y)] : List (Str × V))
  rw [if_neg nw]
  rfl
theorem put3 (x y z : V) : putF "places" z ([("names", x), ("weights", y)] : List (Str × V)) = ([("names", x), ("weights", y), ("places", z)] : List (Str × V)) := by
  show (if ("names" : Str) = "places" then [(("names" : Str), z), (("weights" : Str), y)] else (("names" : Str), x) :: (if ("weights" : Str) = "places" then [(("weights" : Str), z)] else (("weights" : Str), y) :: putF "places" z [])) = ([("names", x), ("weights", y), ("places", z)] : List (Str × V))
  rw [if_neg np, if_neg wp]
  rfl
/-- at f a Fields with these names and this radix -/
structure FieldsAt (C : Addr) (H : Hp) (f : Addr) (ns : List Str) (r : Nat) : Prop where
  ob : ∃ dx l1 l2 l3, H f = some (.ins C dx (fF l1 l2 l3)) ∧ H l1 = some (.lst (ns.map V.str)) ∧ H l2 = some (.lst (wts r ns.length)) ∧ H l3 = some (.dK (mpT eS (plT ns)))
  nd : ns.Nodup
  n1 : ns.length ≤ 1000
  rk : r < 2 ^ 800
theorem FieldsAt.up {C : Addr} {H G : Hp} {f : Addr} {ns : List Str} {r : Nat} (h : FieldsAt C H f ns r) (s : Same H G) : FieldsAt C G f ns r := by
  obtain ⟨⟨dx, l1, l2, l3, h0, h1, h2, h3⟩, nd, n1, rk⟩ := h
  exact ⟨⟨dx, l1, l2, l3, s _ _ h0, s _ _ h1, s _ _ h2, s _ _ h3⟩, nd, n1, rk⟩
structure FldTxt (K : PySem.W.Frag) (mg : Str → Option Value) (C : Addr) : Prop where
  cl : Cls K C
  nN : NoAttr K C "names"
  nW : NoAttr K C "weights"
  nP : NoAttr K C "places"
  gC : mg "Fields" = some (.ref C)
  list : mg "list" = none
  enum : mg "enumerate" = none
  sum : mg "sum" = none
  tuple : mg "tuple" = none
  sorted : mg "sorted" = none
  len : mg "len" = none
  divmod : mg "divmod" = none
def spFInit (K : PySem.W.Frag) (C : Addr) : Sp := fun vs H Q _ => ∃ (p dx l : Addr) (ns : List Str) (r k : Nat), vs = [.ref p, .ref l, .int r] ∧ H p = some (.ins C dx []) ∧ SqL K H l (ns.map V.str) ∧ ns.Nodup ∧ ns.length ≤ 1000 ∧ r < 2 ^ k ∧ 0 < k ∧ k ≤ 800 ∧
  ∀ (G : Hp), FieldsAt C G p ns r → (∀ b o, H b = some o → b ≠ p → G b = some o) → Q .non G
theorem pow_bits {r k n : Nat} (h : r < 2 ^ k) : (((r ^ n : Nat) : Int)).natAbs < 2 ^ (k * n + 1) := by
  rw [Int.natAbs_natCast, Nat.pow_succ, Nat.pow_mul]
  have := Nat.pow_le_pow_left (Nat.le_of_lt h) n
  have p : 0 < (2 ^ k) ^ n := Nat.pow_pos (Nat.pow_pos (by decide))
  omega
section
variable {P : Program} {w : World} {K : PySem.W.Frag} {mg : Str → Option Value} {base : Heap} {C : Addr}
theorem scFInit : FnScope ["self", "names", "radix", "_", "name", "at"] ["self", "names", "radix"] (defScope sFInit) := ⟨rfl, rfl, rfl, by decide +kernel, rfl, by decide +kernel, by decide +kernel⟩
theorem ok_finit {f : Addr} {fd : FuncData} (F : Fun K "__init__" "Fields.__init__" sFInit f fd) (T : FldTxt K mg C) : FnOk P w K mg base CX0 1 f fd ["self", "names", "radix"] (spFInit K C) := by
  refine F.ok scFInit (fun vs H Q E h => ?_) (fun cdv A outer s H vs Q E hr h => ?_)
  · obtain ⟨p, dx, l, ns, r, k, rfl, _⟩ := h
    rfl
  · obtain ⟨p, dx, l, ns, r, k, rfl, hp, hl, nd, n1, rk, k0, k8, go⟩ := h
    refine ⟨_, (pss_cons (ps_fld (pv 0) (pe_callTy call_list_of (by rfl) T.list (by decide +kernel) (pa_cons (pv 1) pa_nil)) rfl)
      (pss_cons (ps_fld (pv 0) (pe_lst (pa_cons pe_int pa_nil)) rfl)
      (pss_cons (ps_for PassesOwn.never rfl (pi_list (pe_fld (pv 0) rfl)) (pg_name (i := 3) scFInit.nd rfl (Or.inl rfl)) (pss_one (ps_expr (pe_bm PySem.F.plainAttrs_list PySem.F.slot_list_append PySem.F.type_list_append mt_append (pe_fld (pv 0) rfl) (pa_cons (pe_op op_mulW (pe_ix ix_list (pe_fld (pv 0) rfl) (pe_un un_neg pe_int) (fun _ _ => rfl)) (pv 2)) pa_nil)))))
      (pss_one (ps_fld (pv 0) (pe_dc (own := [("name", 4), ("at", 5)]) (g := (gTup K 2 (gCons (gName 5) (gCons (gName 4) gNil)))) (tt := tYes) (tk := (tVar 4)) (tv := (tVar 5)) rfl scFInit.nd (pi_enum (by rfl) T.enum (pa_cons (pe_fld (pv 0) rfl) pa_nil)) (blkOk_by (own := [("name", 4), ("at", 5)]) (N := ["self", "names", "radix", "_", "name", "at"]) (sc := defScope sFInit) (by decide +kernel)) (fun _ _ _ _ _ => (pg_tup rfl (pgs_cons (pg_name (i := 5) scFInit.nd rfl (Or.inl rfl)) (pgs_cons (pg_name (i := 4) scFInit.nd rfl (Or.inl rfl)) pgs_nil)))) (fun _ _ _ _ _ => pts_nil) (fun _ _ _ _ _ => (pv 4)) (fun _ _ _ _ _ => (pv 5))) rfl))))), ?_⟩
    refine ⟨_, rfl, l, _, rfl, .inl hl, fun l1 n1' => ⟨_, rfl, p, C, dx, _, rfl, same_new n1' _ _ hp, T.cl, T.nN, (by show 0 < 1000; decide), ?_⟩⟩
    rw [put1]
    have pl1 : p ≠ l1 := ne_of_none hp n1'
    have e1 : upd (upd H l1 (.lst (ns.map V.str))) p (.ins C dx [("names", .ref l1)]) l1 = some (.lst (ns.map V.str)) := (upd_ne (Ne.symm pl1)).trans upd_same
    have e2 : upd (upd H l1 (.lst (ns.map V.str))) p (.ins C dx [("names", .ref l1)]) p = some (.ins C dx [("names", .ref l1)]) := upd_same
    have o1 : ∀ b o, H b = some o → b ≠ p → upd (upd H l1 (.lst (ns.map V.str))) p (.ins C dx [("names", .ref l1)]) b = some o := fun b o q ne => (upd_ne ne).trans (same_new n1' _ _ q)
    generalize upd (upd H l1 (.lst (ns.map V.str))) p (.ins C dx [("names", .ref l1)]) = H1 at e1 e2 o1 ⊢
    refine ⟨by show 1 ≤ sizeLine; decide, fun l2 n2 => ⟨_, rfl, p, C, dx, _, rfl, same_new n2 _ _ e2, T.cl, T.nW, (by show 1 < 1000; decide), ?_⟩⟩
    rw [put2]
    have pl2 : p ≠ l2 := ne_of_none e2 n2
    have l12 : l1 ≠ l2 := ne_of_none e1 n2
    have f1 : upd (upd H1 l2 (.lst [.int 1])) p (.ins C dx [("names", .ref l1), ("weights", .ref l2)]) l1 = some (.lst (ns.map V.str)) := (upd_ne (Ne.symm pl1)).trans ((upd_ne l12).trans e1)
    have f2 : upd (upd H1 l2 (.lst [.int 1])) p (.ins C dx [("names", .ref l1), ("weights", .ref l2)]) l2 = some (.lst (wts r 0)) := (upd_ne (Ne.symm pl2)).trans upd_same
    have f3 : upd (upd H1 l2 (.lst [.int 1])) p (.ins C dx [("names", .ref l1), ("weights", .ref l2)]) p = some (.ins C dx [("names", .ref l1), ("weights", .ref l2)]) := upd_same
    have o2 : ∀ b o, H b = some o → b ≠ p → upd (upd H1 l2 (.lst [.int 1])) p (.ins C dx [("names", .ref l1), ("weights", .ref l2)]) b = some o := fun b o q ne => (upd_ne ne).trans (same_new n2 _ _ (o1 b o q ne))
    have no2 : ∀ b o, H b = some o → b ≠ p → b ≠ l2 := fun b o q ne z => by rw [← z, o1 b o q ne] at n2; cases n2
    generalize upd (upd H1 l2 (.lst [.int 1])) p (.ins C dx [("names", .ref l1), ("weights", .ref l2)]) = H2 at f1 f2 f3 o2 ⊢
    refine ⟨_, rfl, p, C, dx, _, _, rfl, f3, T.cl, T.nN, f_names, l1, rfl, ⟨_, SqL.of f1⟩, ?_⟩
    refine for_it (walk_list (K := K) (a := l1) (xs := ns.map V.str)) (fun i σ G => ∃ u3 : Option V, σ = [some (.ref p), some (.ref l), some (.int (r : Int)), u3, none, none] ∧ Oth l2 H2 G ∧ G l2 = some (.lst (wts r i)))
      ⟨_, rfl, Oth.refl, f2⟩ (fun i σ G _ ⟨_, _, o, _⟩ => SqL.of (o _ _ l12 f1)) (fun i x σ G G' hi ⟨u3, hσ, o, hw⟩ ⟨e, hv⟩ => ?_) (fun σ G ⟨u3, hσ, o, hw⟩ => ?_)
    · subst hσ e
      have hp2 := o _ _ pl2 f3
      rw [List.length_map] at hi
      have ki : k * i + 1 + k ≤ 1000000 := by
        have : k * i ≤ 800 * 1000 := Nat.mul_le_mul k8 (by omega)
        omega
      refine ⟨_, rfl, p, C, dx, _, _, rfl, hp2, T.cl, T.nW, f_weights, .inl ⟨rfl, _, SqL.of hw⟩, ?_⟩
      refine ⟨_, rfl, p, C, dx, _, _, rfl, hp2, T.cl, T.nW, f_weights, _, rfl, l2, _, _, _, rfl, rfl, SqL.of hw, wts_last r i, _, rfl, _, _, rfl, rfl, wide_mul (pow_bits rk) (by rw [Int.natAbs_natCast]; exact rk) (by omega) k0 ki, ?_⟩
      refine ⟨l2, _, _, rfl, rfl, hw, by rw [wts_len, sizeLine_eq]; omega, ?_⟩
      refine ⟨_, rfl, o.trans Oth.put, ?_⟩
      rw [upd_same, wts_succ]
      congr 3
    · subst hσ
      rw [List.length_map] at hw
      have hp2 := o _ _ pl2 f3
      have hn2 := o _ _ l12 f1
      refine ⟨_, rfl, p, C, dx, _, _, rfl, hp2, T.cl, T.nN, f_names, l1, _, rfl, SqL.of hn2, fun D nD => ?_⟩
      have w0 := walk_enum (K := K) (a := l1) (xs := ns.map V.str)
      refine blk_n (o := fun D => .dK []) (n := (ns.map V.str).length) (fun (i : Nat) (F : Hp) => Same G F ∧ F D = some (.dK (mpT eS (plT (ns.take i)))))
        ⟨same_new nD, upd_same⟩ (fun i F hi ⟨s, _⟩ => w0.goes i F hi (SqL.of (s _ _ hn2))) (fun F ⟨s, _⟩ => w0.stops F (SqL.of (s _ _ hn2))) (fun i F x F' hi ⟨s, hD⟩ hy => ?_) (fun F ⟨s, hD⟩ => ?_)
      · obtain ⟨t, x1, x2, rfl, nt, rfl, ex, hx⟩ := w0.yields i F x F' hi (SqL.of (s _ _ hn2)) hy
        cases ex
        have hx : (ns.map V.str)[i]? = some x2 := hx
        rw [List.getElem?_map] at hx
        obtain ⟨nm, hnm, rfl⟩ := Option.map_eq_some_iff.mp hx
        have st : Same F (upd F t (.tup [.int (i : Nat), .str nm])) := same_new nt
        have ht : upd F t (.tup [.int (i : Nat), .str nm]) t = some (.tup [.int (i : Nat), .str nm]) := upd_same
        generalize upd F t (.tup [.int (i : Nat), .str nm]) = F2 at st ht ⊢
        have hl2 : i < ns.length := (List.getElem?_eq_some_iff.mp hnm).1
        have hD2 := st _ _ hD
        refine ⟨t, _, rfl, SqT.of ht, rfl, _, _, rfl, _, _, rfl, rfl, rfl, _, rfl, _, rfl, _, eS nm, rfl, hD2, by rw [len_mpT, plT_len, List.length_take, sizeLine_eq]; omega, fun b o q => (upd_ne (ne_of_none q nD)).trans (st _ _ (s b o q)), ?_⟩
        rw [upd_same, putK_mpT eS_inj, putS_new, take_snoc hnm, plT_snoc, List.length_take, Nat.min_eq_left (by omega)]
        rw [plT_keys]
        intro q
        obtain ⟨j, hj⟩ := List.mem_iff_getElem?.mp q
        rw [List.getElem?_take] at hj
        split at hj
        · rename_i lj
          have := (List.getElem?_inj (List.getElem?_eq_some_iff.mp hj).1 nd).mp (hj.trans hnm.symm)
          omega
        · cases hj
      · rw [List.length_map, List.take_length] at hD
        refine ⟨_, rfl, p, C, dx, _, rfl, s _ _ hp2, T.cl, T.nP, (by show 2 < 1000; decide), ?_⟩
        rw [put3]
        have Dp : D ≠ p := fun z => by rw [z, hp2] at nD; cases nD
        refine go _ ⟨⟨dx, l1, l2, D, upd_same, (upd_ne (Ne.symm pl1)).trans (s _ _ hn2), (upd_ne (Ne.symm pl2)).trans (s _ _ hw), (upd_ne Dp).trans hD⟩, nd, n1, Nat.lt_of_lt_of_le rk (Nat.pow_le_pow_right (by decide) k8)⟩ fun b ob q ne => (upd_ne ne).trans (s _ _ (o _ _ (no2 b ob q ne) (o2 b ob q ne)))
end
end K2P

set_option Elab.async false
set_option linter.all false
set_option maxRecDepth 100000
set_option maxHeartbeats 4000000
set_option autoImplicit false
set_option pp.maxSteps 600
/-! figurehold.fields: key, packed. -/
namespace K2P
open PySem L2 K1D
abbrev sKey : Stmt := inClass (top 8) 2
abbrev sPacked : Stmt := inClass (top 8) 1
def wOf (ns : List Str) (r : Nat) (x : Str) : Int := ((r ^ (getT (plT ns) x).toNat : Nat) : Int)
def keyM (ns : List Str) (r : Nat) (m : Mon) : Int := (m.map fun f => f.2 * wOf ns r f.1).sum
theorem wOf_at {ns : List Str} {r : Nat} (nd : ns.Nodup) {i : Nat} {x : Str} (h : ns[i]? = some x) : wOf ns r x = ((r ^ i : Nat) : Int) := by
  unfold wOf getT
  rw [plT_at nd h]
  rfl
theorem fF_key {l1 l2 l3 : Addr} : (fF l1 l2 l3).lookup ("key" : Str) = none := by
  have h : (("key" : Str) == "names") = false := by decide +kernel
  have h2 : (("key" : Str) == "weights") = false := by decide +kernel
  have h3 : (("key" : Str) == "places") = false := by decide +kernel
  simp [fF, List.lookup, h, h2, h3]
/-- the monomial's names are among these, its exponents small -/
structure InNames (ns : List Str) (m : Mon) : Prop where
  mem : ∀ f ∈ m, f.1 ∈ ns
  low : ∀ f ∈ m, f.2.natAbs < 2 ^ 64
  len : m.length ≤ 100000
def spKey (K : PySem.W.Frag) (C : Addr) : Sp := fun vs H Q _ => ∃ (b : Bool) (f a : Addr) (m : Mon) (ns : List Str) (r : Nat), vs = [.ref f, .ref a] ∧ FieldsAt C H f ns r ∧ MonB b K H m (.ref a) ∧ InNames ns m ∧
  ∀ (G : Hp), Same H G → Q (.int (keyM ns r m)) G
section
variable {P : Program} {w : World} {K : PySem.W.Frag} {mg : Str → Option Value} {base : Heap} {C : Addr}
theorem scKey : FnScope ["self", "monomial", "name", "exponent"] ["self", "monomial"] (defScope sKey) := ⟨rfl, rfl, rfl, by decide +kernel, rfl, by decide +kernel, by decide +kernel⟩
theorem ok_key {f : Addr} {fd : FuncData} (F : Fun K "key" "Fields.key" sKey f fd) (T : FldTxt K mg C) : FnOk P w K mg base CX0 1 f fd ["self", "monomial"] (spKey K C) := by
  refine F.ok scKey (fun vs H Q E h => ?_) (fun cdv A outer s H vs Q E hr h => ?_)
  · obtain ⟨b, f, a, m, ns, r, rfl, _⟩ := h
    rfl
  · obtain ⟨b, p, a, m, ns, r, rfl, ⟨⟨dx, l1, l2, l3, h0, h1, h2, h3⟩, nd, n1, rk⟩, ⟨a', xs, ea, hxs, am⟩, inn, go⟩ := h
    obtain rfl : a = a' := V.ref.inj ea
    refine ⟨_, (pss_one (ps_ret (pe_callB (cr_sum rfl) (by rfl) T.sum (by decide +kernel) (pa_cons (pe_lc (own := [("name", 2), ("exponent", 3)]) (g := (gSeqB b K 2 (gCons (gName 2) (gCons (gName 3) gNil)))) (tt := tYes) (te := (tOp (rI CMulW fun i j => .int (i * j)) (tVar 3) (tOp (rIxL K) (tFld K (tVar 0) "weights") (tDGet (tFld K (tVar 0) "places") (tVar 2))))) rfl scKey.nd (pi_seqB b (pv 1)) (blkOk_by (own := [("name", 2), ("exponent", 3)]) (N := ["self", "monomial", "name", "exponent"]) (sc := defScope sKey) (by decide +kernel)) (fun _ _ _ _ _ => (pg_seqB b rfl (pgs_cons (pg_name (i := 2) scKey.nd rfl (Or.inl rfl)) (pgs_cons (pg_name (i := 3) scKey.nd rfl (Or.inl rfl)) pgs_nil)))) (fun _ _ _ _ _ => pts_nil) (fun _ _ _ _ _ => (pe_op op_mulW (pv 3) (pe_ix ix_list (pe_fld (pv 0) rfl) (pe_dget (hu1 hr) (pe_fld (pv 0) rfl) (pv 2) (fun _ _ => rfl)) (fun _ _ => rfl))))) pa_nil)))), ?_⟩
    refine seqB_go rfl hxs (fun D nD => ?_)
    refine lc_it (walk_seqB b) (fun i G => Same H G ∧ G D = some (.lst (((m.take i).map fun f => f.2 * wOf ns r f.1).map V.int))) ⟨same_new nD, upd_same⟩ (fun i G _ h => Keeps.same h.1 _ _ _ hxs) (fun i x G G' hi ⟨sG, hD⟩ ⟨e, hv⟩ => ?_) (fun G ⟨sG, hD⟩ => ?_)
    · subst e
      obtain ⟨fc, hf, c, rfl, hc⟩ := am.get hv
      have fm := List.mem_of_getElem? hf
      obtain ⟨j, hj⟩ := List.mem_iff_getElem?.mp (inn.mem fc fm)
      have jl : j < ns.length := (List.getElem?_eq_some_iff.mp hj).1
      have w1 := wOf_at (r := r) nd hj
      have il : i < m.length := (List.getElem?_eq_some_iff.mp hf).1
      have gd := DGet.k (k := eS fc.1) (sG _ _ h3)
      have ev : valV (mpT eS (plT ns)) (eS fc.1) = some (.int (j : Int)) := by rw [valV_mpT eS_inj, plT_at nd hj]; rfl
      rw [ev] at gd
      have kj : 64 + (800 * j + 1) ≤ 1000000 := by omega
      refine gseqB_go (Keeps.same sG _ _ _ hc) rfl ⟨_, _, rfl, _, _, rfl, rfl, rfl, _, rfl, ?_⟩
      refine ⟨_, rfl, p, C, dx, _, _, rfl, sG _ _ h0, T.cl, T.nW, f_weights, _, rfl, p, C, dx, _, _, rfl, sG _ _ h0, T.cl, T.nP, f_places, _, rfl, l3, _, rfl, gd, ?_⟩
      refine ⟨l2, _, _, _, rfl, rfl, SqL.of (sG _ _ h2), atI_nat (wts_at (Nat.le_of_lt jl)), _, _, rfl, rfl, wide_mul (inn.low fc fm) (pow_bits rk) (by decide) (by omega) kj, ?_⟩
      refine ⟨_, hD, by rw [List.length_map, List.length_map, List.length_take, sizeLine_eq]; have := inn.len; omega, fun x o q => (upd_ne (ne_of_none q nD)).trans (sG _ _ q), ?_⟩
      rw [upd_same, take_snoc hf, List.map_append, List.map_append, ← w1]
      rfl
    · rw [am.1, List.take_length] at hD
      exact ⟨D, _, rfl, SqL.of hD, go G sG⟩
structure KeyTxt (P : Program) (w : World) (K : PySem.W.Frag) (mg : Str → Option Value) (base : Heap) (C fK : Addr) (dK : FuncData) : Prop where
  ok : FnOk P w K mg base CX0 1 fK dK ["self", "monomial"] (spKey K C)
  b : Binds K dK ["self", "monomial"] []
  m : Meth K C "key" fK
def packT (ns : List Str) (r : Nat) (p : Poly) : KI := p.map fun t => (keyM ns r t.1, t.2)
/-- the dict as it is filled: one key may come more than once -/
def putsT (ns : List Str) (r : Nat) (p : Poly) : KI := p.foldl (fun T t => putT T (keyM ns r t.1) t.2) []
def spPacked (K : PySem.W.Frag) (C : Addr) : Sp := fun vs H Q _ => ∃ (b : Bool) (f a : Addr) (p : Poly) (ns : List Str) (r : Nat), vs = [.ref f, .ref a] ∧ FieldsAt C H f ns r ∧ PolyB b K H p a ∧ (∀ t ∈ p, InNames ns t.1) ∧ p.length < sizeLine ∧
  ∀ (d : Addr) (G : Hp), Same H G → H d = none → TabAt G d (putsT ns r p) → Q (.ref d) G
theorem scPacked : FnScope ["self", "p", "monomial", "many"] ["self", "p"] (defScope sPacked) := ⟨rfl, rfl, rfl, by decide +kernel, rfl, by decide +kernel, by decide +kernel⟩
theorem packT_keys (ns : List Str) (r : Nat) (p : Poly) : (packT ns r p).map (·.1) = p.map fun t => keyM ns r t.1 := by
  unfold packT
  rw [List.map_map]
  rfl
theorem puts_snoc (ns : List Str) (r : Nat) (p : Poly) (t : Term) : putsT ns r (p ++ [t]) = putT (putsT ns r p) (keyM ns r t.1) t.2 := by
  unfold putsT
  rw [List.foldl_append]
  rfl
/-- what the dict holds -/
structure PutsOk (p : Poly) (T : KI) : Prop where
  nd : (T.map (·.1)).Nodup
  len : T.length ≤ p.length
  cs : ∀ x ∈ T, ∃ t ∈ p, x.2 = t.2
theorem mem_putT {T : KI} {k c : Int} {x : Int × Int} (h : x ∈ putT T k c) : x ∈ T ∨ x.2 = c := by
  unfold putT at h
  split at h
  · obtain ⟨y, hy, e⟩ := List.mem_map.mp h
    split at e
    · rw [← e]
      exact .inr rfl
    · rw [← e]
      exact .inl hy
  · rcases List.mem_append.mp h with h | h
    · exact .inl h
    · rw [List.mem_singleton.mp h]
      exact .inr rfl
theorem putsOk (ns : List Str) (r : Nat) : ∀ p : Poly, PutsOk p (putsT ns r p) := by
  intro p
  have h : ∀ i ≤ p.length, PutsOk (p.take i) (putsT ns r (p.take i)) := by
    intro i
    induction i with
    | zero => intro _; exact ⟨List.nodup_nil, Nat.le_refl _, fun x h => nomatch h⟩
    | succ i ih =>
      intro hi
      have q := ih (by omega)
      have e := take_snoc (List.getElem?_eq_getElem (l := p) (i := i) (by omega))
      rw [e, puts_snoc]
      have ln := len_putT (putsT ns r (p.take i)) (keyM ns r p[i].1) p[i].2
      refine ⟨nodup_putT q.nd _ _, ?_, fun x hx => ?_⟩
      · rw [List.length_append]
        have := q.len
        show _ ≤ _ + 1
        omega
      · rcases mem_putT hx with h | h
        · obtain ⟨t, ht, e⟩ := q.cs x h
          exact ⟨t, List.mem_append_left _ ht, e⟩
        · exact ⟨_, List.mem_append_right _ (List.mem_singleton.mpr rfl), h⟩
  have := h p.length (Nat.le_refl _)
  rw [List.take_length] at this
  exact this
theorem puts_pack {ns : List Str} {r : Nat} {p : Poly} (nk : (p.map fun t => keyM ns r t.1).Nodup) : putsT ns r p = packT ns r p := by
  have h : ∀ i ≤ p.length, putsT ns r (p.take i) = packT ns r (p.take i) := by
    intro i
    induction i with
    | zero => intro _; rfl
    | succ i ih =>
      intro hi
      have ht : p[i]? = some p[i] := List.getElem?_eq_getElem (l := p) (i := i) (by omega)
      rw [take_snoc ht, puts_snoc, ih (by omega), put_new]
      · unfold packT
        rw [List.map_append]
        rfl
      · rw [packT_keys]
        intro z
        rw [List.map_take] at z
        obtain ⟨j, hj⟩ := List.mem_iff_getElem?.mp z
        rw [List.getElem?_take] at hj
        split at hj
        · have e2 : (p.map fun t => keyM ns r t.1)[i]? = some (keyM ns r p[i].1) := by rw [List.getElem?_map, ht]; rfl
          have := (List.getElem?_inj (List.getElem?_eq_some_iff.mp hj).1 nk).mp (hj.trans e2.symm)
          omega
        · cases hj
  have := h p.length (Nat.le_refl _)
  rw [List.take_length] at this
  exact this
theorem ok_packed {f fK : Addr} {fd dK : FuncData} (F : Fun K "packed" "Fields.packed" sPacked f fd) (T : FldTxt K mg C) (U : KeyTxt P w K mg base C fK dK) : FnOk P w K mg base CX0 2 f fd ["self", "p"] (spPacked K C) := by
  refine F.ok scPacked (fun vs H Q E h => ?_) (fun cdv A outer s H vs Q E hr h => ?_)
  · obtain ⟨b, f, a, p, ns, r, rfl, _⟩ := h
    rfl
  · obtain ⟨b, f0, a, p, ns, r, rfl, fa, ⟨xs, hxs, ax⟩, inn, lp, go⟩ := h
    refine ⟨_, (pss_one (ps_ret (pe_dc (own := [("monomial", 2), ("many", 3)]) (g := (gSeqB b K 2 (gCons (gName 2) (gCons (gName 3) gNil)))) (tt := tYes) (tk := (tMeth C "key" (spKey K C) [] E0 (tVar 0) (tCons (tVar 2) tNil))) (tv := (tVar 3)) rfl scPacked.nd (pi_seqB b (pv 1)) (blkOk_by (own := [("monomial", 2), ("many", 3)]) (N := ["self", "p", "monomial", "many"]) (sc := defScope sPacked) (by decide +kernel)) (fun _ _ _ _ _ => (pg_seqB b rfl (pgs_cons (pg_name (i := 2) scPacked.nd rfl (Or.inl rfl)) (pgs_cons (pg_name (i := 3) scPacked.nd rfl (Or.inl rfl)) pgs_nil)))) (fun _ _ _ _ _ => pts_nil) (fun _ _ _ _ _ => (pe_meth (pv 0) T.cl U.m U.ok hr U.b .nil pass0 (pa_cons (pv 2) pa_nil))) (fun _ _ _ _ _ => (pv 3))))), ?_⟩
    obtain ⟨⟨dx, l1, l2, l3, h0, h1, h2, h3⟩, nd, n1, rk⟩ := id fa
    refine seqB_go rfl hxs (fun D nD => ?_)
    have w0 := walk_seqB (K := K) (a := a) (xs := xs) b
    refine blk_n (o := fun D => .dK []) (n := xs.length) (fun (i : Nat) (F : Hp) => Same H F ∧ F D = some (.dK (mpT eI (putsT ns r (p.take i)))))
      ⟨same_new nD, upd_same⟩ (fun i F hi ⟨s, _⟩ => w0.goes i F hi (Keeps.same s _ _ _ hxs)) (fun F ⟨s, _⟩ => w0.stops F (Keeps.same s _ _ _ hxs)) (fun i F x F' hi ⟨s, hD⟩ hy => ?_) (fun F ⟨s, hD⟩ => ?_)
    · obtain ⟨e, hv⟩ := w0.yields i F x F' hi (Keeps.same s _ _ _ hxs) hy
      subst e
      obtain ⟨t, ht, q, u, rfl, hq, hm⟩ := ax.get hv
      have il : i < p.length := (List.getElem?_eq_some_iff.mp ht).1
      obtain ⟨mo, ms, rfl, hmo, hms⟩ := id hm
      refine gseqB_go (Keeps.same s _ _ _ hq) rfl ⟨_, _, rfl, _, _, rfl, rfl, rfl, ?_⟩
      refine ⟨_, rfl, f0, dx, _, rfl, s _ _ h0, fF_key, _, rfl, b, f0, mo, t.1, ns, r, rfl, fa.up s, hm.keep (Keeps.same s), inn t (List.mem_of_getElem? ht), fun G sG => ?_⟩
      have hD2 := sG _ _ hD
      have pk := putsOk ns r (p.take i)
      refine ⟨_, rfl, _, eI (keyM ns r t.1), rfl, hD2, by rw [len_mpT]; have := pk.len; rw [List.length_take] at this; omega, fun x o q => (upd_ne (ne_of_none q nD)).trans (sG _ _ (s _ _ q)), ?_⟩
      rw [upd_same, putK_mpT eI_inj, take_snoc ht, puts_snoc]
    · rw [ax.1, List.take_length] at hD
      exact go D F s nD ⟨hD, (putsOk ns r p).nd⟩
end
end K2P

set_option Elab.async false
set_option linter.all false
set_option maxRecDepth 100000
set_option maxHeartbeats 4000000
set_option autoImplicit false
/-! The order of nested keys; sorted over rows of them. Speaks of no program. -/
namespace K2P
open PySem PySem.Spec PyProof.Rows L2 K1D
open PySem.W (alike alikeAll dataLt keyToks keyToksAll EachIs AllAlike dataLe Sortable)
open PyProof.Rows (itemOrd)
mutual
theorem eqv_key : ∀ a b : NestedKey, PyData.eqv a.data b.data = NestedKey.beq a b
  | .none, .none => by simp [NestedKey.data, NestedKey.beq, PyData.eqv]
  | .none, .num _ => by simp [NestedKey.data, NestedKey.beq, PyData.eqv]
  | .none, .text _ => by simp [NestedKey.data, NestedKey.beq, PyData.eqv]
  | .none, .tup _ => by simp [NestedKey.data, NestedKey.beq, PyData.eqv]
  | .num _, .none => by simp [NestedKey.data, NestedKey.beq, PyData.eqv]
  | .num a, .num b => by simp only [NestedKey.data, NestedKey.beq, PyData.eqv]; rfl
  | .num _, .text _ => by simp [NestedKey.data, NestedKey.beq, PyData.eqv]
  | .num _, .tup _ => by simp [NestedKey.data, NestedKey.beq, PyData.eqv]
  | .text _, .none => by simp [NestedKey.data, NestedKey.beq, PyData.eqv]
  | .text _, .num _ => by simp [NestedKey.data, NestedKey.beq, PyData.eqv]
  | .text a, .text b => by simp only [NestedKey.data, NestedKey.beq, PyData.eqv]; rfl
  | .text _, .tup _ => by simp [NestedKey.data, NestedKey.beq, PyData.eqv]
  | .tup _, .none => by simp [NestedKey.data, NestedKey.beq, PyData.eqv]
  | .tup _, .num _ => by simp [NestedKey.data, NestedKey.beq, PyData.eqv]
  | .tup _, .text _ => by simp [NestedKey.data, NestedKey.beq, PyData.eqv]
  | .tup a, .tup b => by
    simp only [NestedKey.data, NestedKey.beq, PyData.eqv]
    exact eqv_keys a b
theorem eqv_keys : ∀ a b : List NestedKey, PyData.eqvAll (NestedKey.datas a) (NestedKey.datas b) = NestedKey.beqAll a b
  | [], [] => by simp [NestedKey.datas, NestedKey.beqAll, PyData.eqvAll]
  | [], _ :: _ => by simp [NestedKey.datas, NestedKey.beqAll, PyData.eqvAll]
  | _ :: _, [] => by simp [NestedKey.datas, NestedKey.beqAll, PyData.eqvAll]
  | x :: a, y :: b => by
    simp only [NestedKey.datas, NestedKey.beqAll, PyData.eqvAll, eqv_key x y, eqv_keys a b]
end
theorem eqv_iff (a b : NestedKey) : PyData.eqv a.data b.data = true ↔ a = b := by
  rw [eqv_key]
  exact ⟨NestedKey.eq_of_beq a b, fun e => by rw [e]; exact NestedKey.beq_self b⟩
theorem lex_lone (x : List (Int ⊕ List Nat)) : PyProof.Rows.lexLt itemOrd (x ++ []) (x ++ [Sum.inl 0]) = true := by
  rw [PySem.W.lex_pre]
  rfl
theorem eqv_of_toks {x y : PyData} (h : alike x y = true) (e : keyToks x = keyToks y) : PyData.eqv x y = true := by
  cases q : PyData.eqv x y with
  | true => rfl
  | false =>
    have z := (PySem.W.toks_eqv x y h).2 q [] [Sum.inl 0]
    rw [e, lex_lone, PyProof.Rows.lex_irrefl] at z
    cases z
/-- one key ahead of another -/
def ltK (a b : NestedKey) : Bool := dataLt a.data b.data
theorem ltK_irr (a : NestedKey) : ltK a a = false := PyProof.Rows.lex_irrefl (O := itemOrd) _
theorem ltK_trans {a b c : NestedKey} (h : ltK a b = true) (g : ltK b c = true) : ltK a c = true := PyProof.Rows.lex_trans (O := itemOrd) _ _ _ h g
theorem ltK_asymm {a b : NestedKey} (h : ltK a b = true) : ltK b a = false := by
  cases q : ltK b a with
  | false => rfl
  | true =>
    have := ltK_trans h q
    rw [ltK_irr] at this
    cases this

def AlK (ks : List NestedKey) : Prop := ∀ a ∈ ks, ∀ b ∈ ks, alike a.data b.data = true
theorem ltK_tot {a b : NestedKey} (al : alike a.data b.data = true) (ne : a ≠ b) (h : ltK a b = false) : ltK b a = true := by
  cases q : ltK b a with
  | true => rfl
  | false => exact absurd ((eqv_iff _ _).mp (eqv_of_toks al (PyProof.Rows.lex_total (O := itemOrd) _ _ h q))) ne
/-! ### a polynomial's parts as keys -/
theorem facK_inj {x y : Fac} (h : facK x = facK y) : x = y := by
  obtain ⟨a, b⟩ := x
  obtain ⟨c, d⟩ := y
  unfold facK at h
  simp only [NestedKey.tup.injEq, List.cons.injEq, NestedKey.text.injEq, NestedKey.num.injEq, and_true] at h
  rw [h.1, h.2]
theorem map_inj {α β : Type} {f : α → β} (hf : ∀ x y, f x = f y → x = y) : ∀ {l m : List α}, l.map f = m.map f → l = m
  | [], [], _ => rfl
  | [], _ :: _, h => by simp at h
  | _ :: _, [], h => by simp at h
  | a :: l, b :: m, h => by
    rw [List.map_cons, List.map_cons, List.cons.injEq] at h
    rw [hf _ _ h.1, map_inj hf h.2]
theorem monK_inj {x y : Mon} (h : monK x = monK y) : x = y := by
  unfold monK at h
  exact map_inj (fun _ _ => facK_inj) (NestedKey.tup.inj h)
theorem datas_map : ∀ ks : List NestedKey, NestedKey.datas ks = ks.map NestedKey.data
  | [] => rfl
  | k :: ks => by rw [NestedKey.datas, datas_map ks]; rfl
theorem al_facs : ∀ x y : Mon, alikeAll (NestedKey.datas (x.map facK)) (NestedKey.datas (y.map facK)) = true
  | [], _ => by simp [NestedKey.datas, alikeAll]
  | _ :: _, [] => by simp [NestedKey.datas, alikeAll]
  | a :: x, b :: y => by
    simp only [List.map_cons, NestedKey.datas, alikeAll, al_facs x y, Bool.and_true]
    simp [facK, NestedKey.data, NestedKey.datas, alike, alikeAll]
theorem al_fac (x y : Fac) : alike (facK x).data (facK y).data = true := by simp [facK, NestedKey.data, NestedKey.datas, alike, alikeAll]
theorem al_mon (x y : Mon) : alike (monK x).data (monK y).data = true := by
  unfold monK
  rw [NestedKey.data, NestedKey.data, alike]
  exact al_facs x y
theorem al_term (x y : Term) : alike (termK x).data (termK y).data = true := by
  have := al_mon x.1 y.1
  unfold termK
  simp [NestedKey.data, NestedKey.datas, alike, alikeAll, this]
def ltM (a b : Mon) : Prop := ltK (monK a) (monK b) = true
theorem ltM_irr (a : Mon) : ¬ ltM a a := fun h => by rw [ltM, ltK_irr] at h; cases h
theorem ltM_trans {a b c : Mon} (h : ltM a b) (g : ltM b c) : ltM a c := ltK_trans h g
theorem ltM_asy {a b : Mon} (h : ltM a b) : ¬ ltM b a := fun g => ltM_irr a (ltM_trans h g)
theorem ltM_tot {a b : Mon} (ne : a ≠ b) (h : ¬ ltM a b) : ltM b a := ltK_tot (al_mon a b) (fun e => ne (monK_inj e)) (by rw [ltM] at h; exact Bool.eq_false_iff.mpr h)
def ltF (a b : Fac) : Prop := ltK (facK a) (facK b) = true
theorem ltF_irr (a : Fac) : ¬ ltF a a := fun h => by rw [ltF, ltK_irr] at h; cases h
theorem ltF_tot {a b : Fac} (ne : a ≠ b) (h : ¬ ltF a b) : ltF b a := ltK_tot (al_fac a b) (fun e => ne (facK_inj e)) (by rw [ltF] at h; exact Bool.eq_false_iff.mpr h)
/-- factors of unlike names: their names' order -/
theorem ltF_names {a b : Fac} (ne : a.1 ≠ b.1) : ltF a b ↔ a.1.cps.toList < b.1.cps.toList := by
  have e : ltK (facK a) (facK b) = dataLt (.tuple [.str a.1, .int a.2]) (.tuple [.str b.1, .int b.2]) := by simp [ltK, facK, NestedKey.data, NestedKey.datas]
  have nq : PyData.eqv (.str a.1) (.str b.1) = false := by simp [PyData.eqv, ne]
  rw [ltF, e, PySem.W.dataLt_pair (by simp [alike]) (by simp [alike]), nq, if_neg Bool.false_ne_true, PySem.W.dataLt_str, decide_eq_true_eq]
/-! ### depths -/
theorem dep_facs : ∀ l : Mon, NestedKey.depthAll (l.map facK) ≤ 1
  | [] => Nat.zero_le _
  | x :: l => by
    show max (facK x).depth (NestedKey.depthAll (l.map facK)) ≤ 1
    exact Nat.max_le.mpr ⟨by simp [facK, NestedKey.depth, NestedKey.depthAll], dep_facs l⟩
theorem dep_mon (m : Mon) : (monK m).depth ≤ 2 := by
  show NestedKey.depthAll (m.map facK) + 1 ≤ 2
  have := dep_facs m
  omega
theorem dep_term (t : Term) : (termK t).depth ≤ 3 := by
  have := dep_mon t.1
  show max (monK t.1).depth (max (NestedKey.num t.2).depth 0) + 1 ≤ 3
  have e : (NestedKey.num t.2).depth = 0 := by simp [NestedKey.depth]
  rw [e]
  omega
section
variable {K : PySem.W.Frag} {H : Hp}
theorem each_of_ks {β : Type} (enc : β → NestedKey) : ∀ {bs : List β} {xs : List V} {us : List Value}, KeyVs K H (bs.map enc) xs → Vals xs us → EachIs (fun v b => ∃ x, RelV x v ∧ KeyV K H (enc b) x) us bs
  | [], _, _, h, r => by cases h; cases r; exact .nil
  | b :: bs, _, _, h, r => by
    cases h with
    | cons h1 h2 =>
      cases r with
      | cons r1 r2 => exact .cons ⟨_, r1, h1⟩ (each_of_ks enc h2 r2)
theorem ks_of_each {β : Type} (enc : β → NestedKey) : ∀ {us : List Value} {bs : List β}, EachIs (fun v b => ∃ x, RelV x v ∧ KeyV K H (enc b) x) us bs → ∃ zs, Vals zs us ∧ KeyVs K H (bs.map enc) zs
  | _, _, .nil => ⟨[], .nil, .nil⟩
  | _, _, .cons ⟨x, r, k⟩ t => by
    obtain ⟨zs, h1, h2⟩ := ks_of_each enc t
    exact ⟨x :: zs, .cons r h1, .cons k h2⟩
end
/-- sorted(xs), the items nested tuples of one kind, none empty -/
def rSortK (K : PySem.W.Frag) {β : Type} (enc : β → NestedKey) : List V → Hp → VK → Prop := fun vs H Q => ∃ (bs : List β) (a : Addr) (xs : List V), vs = [V.ref a] ∧ SqL K H a xs ∧ KeyVs K H (bs.map enc) xs ∧
  ∀ (zs : List V) (p : Addr), KeyVs K H ((bs.mergeSort (dataLe false fun b => (enc b).data)).map enc) zs → H p = none → Q (.ref p) (upd H p (.lst zs))
theorem cr_sortK {X : Cx} (hu : X.A.units + 64 < cLine) {β : Type} {enc : β → NestedKey} (al : ∀ a b, alike (enc a).data (enc b).data = true) (tp : ∀ b, ∃ k ks, enc b = .tup (k :: ks)) (dp : ∀ b, (enc b).depth ≤ 9) : CallR X (.builtin "sorted") (rSortK X.K enc) := by
  intro pins s σ H vs us Q I r h
  obtain ⟨bs, a, xs, rfl, hs, hk, q⟩ := h
  obtain ⟨its, rv, hl, hz⟩ := I.list hs
  rw [Vals.ref1 r]
  have e1 := each_of_ks enc hk rv
  have lb : its.length = bs.length := e1.length
  have lx : xs.length = its.length := rv.length
  have er : EachIs (fun v b => ∃ as, Reads s.heap v ((fun b => (enc b).data) b) as) its bs := e1.mono fun v b ⟨x, rx, kx⟩ => ⟨[], KeyV.reads I _ _ _ kx rx⟩
  have all : AllAlike (bs.map fun b => (enc b).data) := by
    intro d1 h1 d2 h2
    obtain ⟨y1, m1, rfl⟩ := List.mem_map.mp h1
    obtain ⟨y2, m2, rfl⟩ := List.mem_map.mp h2
    exact al _ _
  have ls : bs.length ≤ sizeLine := by rw [← lb, ← lx]; exact hz
  refine PySem.W.sorted_data (enc := fun b => (enc b).data) hl.isList e1 er all (Sortable.tuples fun b => ?_) ls (fun b hb => ?_) fun out ol oe => ?_
  · obtain ⟨k, ks, e⟩ := tp b
    exact ⟨k.data, NestedKey.datas ks, by rw [e]; rfl⟩
  · have := dp b
    rw [key_depth]
    omega
  · obtain ⟨zs, vz, kz⟩ := ks_of_each enc oe
    obtain ⟨ep, he'⟩ := PyProof.Rows.sortedAll_at s.heap its out.toArray
    have lz : zs.length ≤ sizeLine := by rw [vz.length, ol]; exact ls
    exact ⟨.ref _, upd H (s.heap.objs.size + 1) (.lst zs), I.laid (t' := s.toks) (fun _ _ => PyProof.Rows.sortedAll_old) (Nat.le_succ _) ⟨lz, out, ep, vz, by rw [← he']⟩, rfl, q zs _ kz (I.hok.fresh (Nat.le_succ _))⟩
/-! ### rows sorted by such keys -/
theorem le_keys {β : Type} (enc : β → NestedKey) : ∀ a b : β, dataLe false (fun b => (enc b).data) a b = !ltK (enc b) (enc a) := fun a b => by
  rw [PySem.W.dataLe_eq]
  rfl
theorem sortK_up {β : Type} {enc : β → NestedKey} (al : ∀ a b, alike (enc a).data (enc b).data = true) (inj : ∀ a b, enc a = enc b → a = b) {l : List β} (nd : l.Nodup) : (l.mergeSort (dataLe false fun b => (enc b).data)).Pairwise fun a b => ltK (enc a) (enc b) = true := by
  have q := List.pairwise_mergeSort (le := dataLe false fun b => (enc b).data) (fun a b c h1 h2 => ?_) (fun a b => ?_) l
  · have nd' : (l.mergeSort (dataLe false fun b => (enc b).data)).Nodup := (List.mergeSort_perm _ _).nodup_iff.mpr nd
    refine (List.Pairwise.and q nd').imp fun {a b} ⟨h, ne⟩ => ?_
    rw [le_keys, Bool.not_eq_true'] at h
    exact ltK_tot (al b a) (fun e => ne (inj _ _ e).symm) h
  · rw [le_keys, Bool.not_eq_true'] at h1 h2 ⊢
    cases z : ltK (enc c) (enc a) with
    | false => rfl
    | true =>
      by_cases e : enc a = enc b
      · rw [e] at z; rw [z] at h2; cases h2
      · have := ltK_trans z (ltK_tot (al b a) (fun w => e w.symm) h1)
        rw [this] at h2
        cases h2
  · rw [le_keys, le_keys]
    cases z : ltK (enc b) (enc a) with
    | false => rfl
    | true => rw [ltK_asymm z]; rfl
end K2P

set_option Elab.async false
set_option linter.all false
set_option maxRecDepth 100000
set_option maxHeartbeats 4000000
set_option autoImplicit false
set_option pp.maxSteps 600
/-! figurehold.fields: monomial. -/
namespace K2P
open PySem L2 K1D
abbrev sMono : Stmt := inClass (top 8) 4
theorem AllV.snoc {β : Type} {R : β → V → Prop} {bs : List β} {vs : List V} (h : AllV R bs vs) {x : β} {v : V} (r : R x v) : AllV R (bs ++ [x]) (vs ++ [v]) := by
  refine ⟨by rw [List.length_append, List.length_append, h.1]; rfl, fun i y u ey eu => ?_⟩
  by_cases q : i < bs.length
  · rw [List.getElem?_append_left q] at ey
    rw [List.getElem?_append_left (by rw [h.1]; exact q)] at eu
    exact h.2 i y u ey eu
  · rw [List.getElem?_append_right (by omega)] at ey
    rw [List.getElem?_append_right (by rw [h.1]; omega), h.1] at eu
    have : i - bs.length = 0 := by
      have := (List.getElem?_eq_some_iff.mp ey).1
      simp at this
      omega
    rw [this] at ey eu
    cases ey
    cases eu
    exact r
theorem AllV.pop {β : Type} {R : β → V → Prop} {bs : List β} {vs : List V} {v : V} (h : AllV R bs (vs ++ [v])) : ∃ bs' x, bs = bs' ++ [x] ∧ AllV R bs' vs ∧ R x v := by
  have l := h.1
  rw [List.length_append] at l
  have l : vs.length + 1 = bs.length := l
  have ne : bs ≠ [] := fun z => by rw [z] at l; simp at l
  refine ⟨bs.dropLast, bs.getLast ne, (List.dropLast_concat_getLast ne).symm, ?_, ?_⟩
  · refine ⟨by rw [List.length_dropLast]; omega, fun i y u ey eu => ?_⟩
    have il := (List.getElem?_eq_some_iff.mp eu).1
    refine h.2 i y u ?_ (by rw [List.getElem?_append_left il]; exact eu)
    rw [List.dropLast_eq_take, List.getElem?_take] at ey
    split at ey
    · exact ey
    · cases ey
  · refine h.2 (bs.length - 1) _ v ?_ ?_
    · rw [List.getLast_eq_getElem]
      exact List.getElem?_eq_getElem _
    · rw [List.getElem?_append_right (by omega), show bs.length - 1 - vs.length = 0 by omega]
      rfl
/-- names with their digits; those that aren't 0 -/
abbrev Dgs := List (Str × Nat)
def pendL (l : Dgs) : List Fac := l.filterMap fun x => if x.2 = 0 then none else some (x.1, (x.2 : Int))
def numZ (r : Nat) (l : Dgs) : Nat := numD r (l.map (·.2))
theorem pendL_app (a b : Dgs) : pendL (a ++ b) = pendL a ++ pendL b := List.filterMap_append
theorem pendL_zero {l : Dgs} (h : ∀ x ∈ l, x.2 = 0) : pendL l = [] := by
  unfold pendL
  rw [List.filterMap_eq_nil_iff]
  intro x hx
  rw [if_pos (h x hx)]
def seg (Z : Dgs) (e : Nat × Nat) : Dgs := (Z.drop e.1).take e.2
theorem seg_low (Z : Dgs) (s c h : Nat) (hc : h ≤ c) : (seg Z (s, c)).take h = seg Z (s, h) := by
  unfold seg
  rw [List.take_take, Nat.min_eq_left hc]
theorem seg_high (Z : Dgs) (s c h : Nat) (hc : h ≤ c) : (seg Z (s, c)).drop h = seg Z (s + h, c - h) := by
  unfold seg
  rw [List.drop_take, List.drop_drop]
theorem seg_len {Z : Dgs} {s c : Nat} (h : s + c ≤ Z.length) : (seg Z (s, c)).length = c := by
  unfold seg
  rw [List.length_take, List.length_drop]
  omega
def meas (es : List (Nat × Nat)) : Nat := (es.map fun e => max 1 (2 * e.2 - 1)).sum
theorem meas_app (a b : List (Nat × Nat)) : meas (a ++ b) = meas a + meas b := by
  unfold meas
  rw [List.map_append, List.sum_append]
def EntV (r : Nat) (Z : Dgs) (G : Hp) (e : Nat × Nat) (v : V) : Prop := ∃ t, v = .ref t ∧ G t = some (.tup [.int (numZ r (seg Z e) : Int), .int (e.1 : Int), .int (e.2 : Int)]) ∧ e.1 + e.2 ≤ Z.length
theorem EntV.up {r : Nat} {Z : Dgs} {G F : Hp} {e : Nat × Nat} {v : V} (h : EntV r Z G e v) (k : ∀ t xs, G t = some (.tup xs) → F t = some (.tup xs)) : EntV r Z F e v := by
  obtain ⟨t, e1, e2, e3⟩ := h
  exact ⟨t, e1, k _ _ e2, e3⟩
theorem dep_facK (f : Fac) : (facK f).depth ≤ 1 := by simp [facK, NestedKey.depth, NestedKey.depthAll]
theorem seg_all (Z : Dgs) : seg Z (0, Z.length) = Z := by
  unfold seg
  rw [List.drop_zero, List.take_length]
/-- rising names, exponents from 1 on -/
structure MonOk (m : Mon) : Prop where
  up : m.Pairwise fun a b => a.1.cps.toList < b.1.cps.toList
  ge : ∀ f ∈ m, 1 ≤ f.2
/-- the monomial of the digits -/
structure MonOf (Z : Dgs) (m : Mon) : Prop where
  ok : MonOk m
  perm : m.Perm (pendL Z)
def spMono (K : PySem.W.Frag) (C : Addr) : Sp := fun vs H Q _ => ∃ (f : Addr) (Z : Dgs) (r : Nat), vs = [.ref f, .int (numZ r Z : Int)] ∧ FieldsAt C H f (Z.map (·.1)) r ∧ (∀ x ∈ Z, x.2 < r) ∧ r ^ Z.length < 2 ^ 8999 ∧
  ∀ (a : Addr) (m : Mon) (G : Hp), Same H G → MonOf Z m → KeyV K G (monK m) (.ref a) → Q (.ref a) G
theorem pend_nd {Z : Dgs} (nd : (Z.map (·.1)).Nodup) : ((pendL Z).map (·.1)).Nodup := by
  induction Z with
  | nil => exact List.nodup_nil
  | cons x Z ih =>
    rw [List.map_cons, List.nodup_cons] at nd
    have sub : ∀ y ∈ (pendL Z).map (·.1), y ∈ Z.map (·.1) := fun y hy => by
      obtain ⟨f, hf, rfl⟩ := List.mem_map.mp hy
      obtain ⟨z, hz, e⟩ := List.mem_filterMap.mp hf
      split at e
      · cases e
      · cases e
        exact List.mem_map.mpr ⟨z, hz, rfl⟩
    by_cases x0 : x.2 = 0
    · rw [show pendL (x :: Z) = pendL Z from by unfold pendL; rw [List.filterMap_cons, if_pos x0]]
      exact ih nd.2
    · rw [show pendL (x :: Z) = (x.1, (x.2 : Int)) :: pendL Z from by unfold pendL; rw [List.filterMap_cons, if_neg x0], List.map_cons, List.nodup_cons]
      exact ⟨fun h => nd.1 (sub _ h), ih nd.2⟩
theorem pend_ge {Z : Dgs} : ∀ f ∈ pendL Z, 1 ≤ f.2 := fun f hf => by
  obtain ⟨z, hz, e⟩ := List.mem_filterMap.mp hf
  split at e
  · cases e
  · cases e
    show 1 ≤ (z.2 : Int)
    omega
theorem names_nd {l : List Fac} (h : (l.map (·.1)).Nodup) : l.Nodup := by
  refine List.Pairwise.of_map (S := (· ≠ ·)) (fun x : Fac => x.1) (fun a b ne e => ne (by rw [e])) h
theorem sorted_mon {P : List Fac} {Z : Dgs} (pm : P.Perm (pendL Z)) (nd : (Z.map (·.1)).Nodup) : MonOf Z (P.mergeSort (PySem.W.dataLe false fun b => (facK b).data)) := by
  have ps : (P.mergeSort (PySem.W.dataLe false fun b => (facK b).data)).Perm P := List.mergeSort_perm _ _
  have nP : (P.map (·.1)).Nodup := (pm.map (fun x : Fac => x.1)).nodup_iff.mpr (pend_nd nd)
  have up := sortK_up (enc := facK) al_fac (fun _ _ => facK_inj) (names_nd nP)
  have nS : ((P.mergeSort (PySem.W.dataLe false fun b => (facK b).data)).map (·.1)).Nodup := (ps.map (fun x : Fac => x.1)).nodup_iff.mpr nP
  refine ⟨⟨?_, fun f hf => pend_ge f (pm.mem_iff.mp (ps.mem_iff.mp hf))⟩, ps.trans pm⟩
  exact (up.and (List.pairwise_map.mp nS)).imp fun {a b} ⟨h, ne⟩ => (ltF_names ne).mp h
theorem last_at {α : Type} (xs : List α) (v : α) : (xs ++ [v])[(xs ++ [v]).length - 1]? = some v := by
  rw [List.length_append, show xs.length + [v].length - 1 = xs.length from rfl, List.getElem?_append_right (Nat.le_refl _), Nat.sub_self]
  rfl
theorem keyVs_app {K : PySem.W.Frag} {H : Hp} : ∀ {ks ls : List NestedKey} {xs ys : List V}, KeyVs K H ks xs → KeyVs K H ls ys → KeyVs K H (ks ++ ls) (xs ++ ys)
  | [], _, _, _, h, g => by cases h; exact g
  | _ :: _, _, _, _, h, g => by
    cases h with
    | cons h1 h2 => exact .cons h1 (keyVs_app h2 g)
theorem log_lt {a : Nat} (h : a < 2 ^ 8999) : ((a : Nat) : Int).natAbs.log2 < 9000 := by
  have := PySem.Flt.log2_lt_of (k := 8999) (by decide) h
  rw [Int.natAbs_natCast]
  omega
section
variable {P : Program} {w : World} {K : PySem.W.Frag} {mg : Str → Option Value} {base : Heap} {C : Addr}
theorem scMono : FnScope ["self", "key", "pairs", "waiting", "rest", "start", "many", "high", "low"] ["self", "key"] (defScope sMono) := ⟨rfl, rfl, rfl, by decide +kernel, rfl, by decide +kernel, by decide +kernel⟩
theorem ok_mono {f : Addr} {fd : FuncData} (F : Fun K "monomial" "Fields.monomial" sMono f fd) (T : FldTxt K mg C) : FnOk P w K mg base CX0 1 f fd ["self", "key"] (spMono K C) := by
  refine F.ok scMono (fun vs H Q E h => ?_) (fun cdv A outer s H vs Q E hr h => ?_)
  · obtain ⟨f, Z, r, rfl, _⟩ := h
    rfl
  · obtain ⟨p, Z, r, rfl, ⟨⟨dx, l1, l2, l3, h0, h1, h2, h3⟩, nd, n1, rk⟩, dl, rb, go⟩ := h
    refine ⟨_, (pss_cons (ps_set (i := 2) scMono.nd rfl (Or.inl rfl) (pe_lst pa_nil))
      (pss_cons (ps_set (i := 3) scMono.nd rfl (Or.inl rfl) (pe_lst (pa_cons (pe_tup (pa_cons (pv 1) (pa_cons pe_int (pa_cons (pe_callB call_len_seq (by rfl) T.len PySem.boot_len (pa_cons (pe_fld (pv 0) rfl) pa_nil)) pa_nil)))) pa_nil)))
      (pss_cons (ps_while PassesOwn.never (pt_truth (pv 3) (fun _ => rfl)) (pss_cons (ps_asg (pe_bm0 PySem.F.plainAttrs_list PySem.F.slot_list_pop PySem.F.type_list_pop mt_pop (pv 3)) (pg_tup rfl (pgs_cons (pg_name (i := 4) scMono.nd rfl (Or.inl rfl)) (pgs_cons (pg_name (i := 5) scMono.nd rfl (Or.inl rfl)) (pgs_cons (pg_name (i := 6) scMono.nd rfl (Or.inl rfl)) pgs_nil)))))
      (pss_cons (ps_if (pt_cmpR op_eq (pv 4) pe_int (nomark _)) (pss_one ps_continue) pss_nil)
      (pss_one (ps_if (pt_cmpR op_eq (pv 6) pe_int (nomark _)) (pss_one (ps_expr (pe_bm PySem.F.plainAttrs_list PySem.F.slot_list_append PySem.F.type_list_append mt_append (pv 2) (pa_cons (pe_tup (pa_cons (pe_ix ix_list (pe_fld (pv 0) rfl) (pv 5) (fun _ _ => rfl)) (pa_cons (pv 4) pa_nil))) pa_nil)))) (pss_cons (ps_asg (pe_callB call_divmodW (by rfl) T.divmod (by decide +kernel) (pa_cons (pv 4) (pa_cons (pe_ix ix_list (pe_fld (pv 0) rfl) (pe_op op_fdiv (pv 6) pe_int) (fun _ _ => rfl)) pa_nil))) (pg_tup rfl (pgs_cons (pg_name (i := 7) scMono.nd rfl (Or.inl rfl)) (pgs_cons (pg_name (i := 8) scMono.nd rfl (Or.inl rfl)) pgs_nil))))
      (pss_cons (ps_expr (pe_bm PySem.F.plainAttrs_list PySem.F.slot_list_append PySem.F.type_list_append mt_append (pv 3) (pa_cons (pe_tup (pa_cons (pv 8) (pa_cons (pv 5) (pa_cons (pe_op op_fdiv (pv 6) pe_int) pa_nil)))) pa_nil)))
      (pss_one (ps_expr (pe_bm PySem.F.plainAttrs_list PySem.F.slot_list_append PySem.F.type_list_append mt_append (pv 3) (pa_cons (pe_tup (pa_cons (pv 7) (pa_cons (pe_op op_add (pv 5) (pe_op op_fdiv (pv 6) pe_int)) (pa_cons (pe_op op_sub (pv 6) (pe_op op_fdiv (pv 6) pe_int)) pa_nil)))) pa_nil)))))))))))
      (pss_one (ps_ret (pe_callTy call_tuple_of (by rfl) T.tuple (by decide +kernel) (pa_cons (pe_callB (show CallR _ (.builtin "sorted") (rSortK K facK) from cr_sortK hr.units al_fac (fun f => ⟨_, _, rfl⟩) (fun f => Nat.le_trans (dep_facK f) (by decide))) (by rfl) T.sorted (by decide +kernel) (pa_cons (pv 2) pa_nil)) pa_nil))))))), ?_⟩
    rw [List.length_map] at n1 h2
    refine ⟨by decide, fun Pa nP => ?_⟩
    have s1 : Same H (upd H Pa (.lst [])) := same_new nP
    have e1 : upd H Pa (.lst []) Pa = some (.lst []) := upd_same
    generalize upd H Pa (.lst []) = H1 at s1 e1 ⊢
    refine ⟨_, rfl, _, rfl, p, C, dx, _, _, rfl, s1 _ _ h0, T.cl, T.nN, f_names, l1, _, rfl, .inl (SqL.of (s1 _ _ h1)), by show 3 ≤ sizeLine; decide, fun t nt => ⟨by show 1 ≤ sizeLine; decide, fun W nW => ?_⟩⟩
    rw [List.length_map, List.length_map]
    have s2 : Same H1 (upd H1 t (.tup [.int (numZ r Z : Int), .int 0, .int (Z.length : Int)])) := same_new nt
    have ht : upd H1 t (.tup [.int (numZ r Z : Int), .int 0, .int (Z.length : Int)]) t = some (.tup [.int (numZ r Z : Int), .int 0, .int (Z.length : Int)]) := upd_same
    rw [List.length_map, List.length_map] at nW
    generalize upd H1 t (.tup [.int (numZ r Z : Int), .int 0, .int (Z.length : Int)]) = H2 at s2 ht nW ⊢
    have s3 : Same H2 (upd H2 W (.lst [.ref t])) := same_new nW
    have eW : upd H2 W (.lst [.ref t]) W = some (.lst [.ref t]) := upd_same
    have PW : Pa ≠ W := ne_of_none (s2 _ _ e1) nW
    have HW : H W = none := by
      cases q : H W with
      | none => rfl
      | some o => rw [s2 _ _ (s1 _ _ q)] at nW; cases nW
    generalize upd H2 W (.lst [.ref t]) = F0 at s3 eW ⊢
    have sF : Same H F0 := (s1.trans s2).trans s3
    have eP := s3 _ _ (s2 _ _ e1)
    have et := s3 _ _ ht
    let IV : Nat → L2.St → Hp → Prop := fun m σ G => ∃ (u4 u5 u6 u7 u8 : Option V) (P : List Fac) (ps : List V) (es : List (Nat × Nat)) (ws : List V), σ = [some (.ref p), some (.int (numZ r Z : Int)), some (.ref Pa), some (.ref W), u4, u5, u6, u7, u8] ∧ Same H G ∧ G Pa = some (.lst ps) ∧ KeyVs K G (P.map facK) ps ∧
      G W = some (.lst ws) ∧ AllV (EntV r Z G) es ws ∧ (P ++ es.flatMap fun e => pendL (seg Z e)).Perm (pendL Z) ∧ m = meas es ∧ meas es ≤ 2 * Z.length + 1
    have pl : (pendL Z).length ≤ Z.length := List.length_filterMap_le _ _
    refine ⟨IV, ⟨meas [(0, Z.length)], none, none, none, none, none, [], [], [(0, Z.length)], [.ref t], rfl, sF, eP, .nil, eW, ⟨rfl, fun i x v ex ev => ?_⟩, ?_, rfl, ?_⟩, fun m σ G hI => ?_⟩
    · match i, ex, ev with
      | 0, ex, ev =>
        cases ex
        cases ev
        exact ⟨t, rfl, by rw [seg_all]; exact et, by show 0 + Z.length ≤ _; omega⟩
    · show (pendL (seg Z (0, Z.length)) ++ []).Perm _
      rw [seg_all, List.append_nil]
    · show max 1 (2 * Z.length - 1) + 0 ≤ _
      omega
    obtain ⟨u4, u5, u6, u7, u8, P1, ps, es, ws, rfl, sG, hP, kP, hW, aW, pm, rfl, ml⟩ := hI
    have up : ∀ {G : Hp} {b : Addr} {xs : List V} {o : HO}, G b = some (.lst xs) → ∀ t ys, G t = some (.tup ys) → upd G b o t = some (.tup ys) := fun {G b xs o} h t ys e => (upd_ne (fun z => by rw [z, h] at e; cases e)).trans e
    refine ⟨_, rfl, !ws.isEmpty, .inl ⟨ws, SqL.of hW, rfl⟩, ?_⟩
    by_cases we : ws = []
    · refine ifN (by rw [we]; rfl) ?_
      have ees : es = [] := List.length_eq_zero_iff.mp (by rw [← aW.1, we]; rfl)
      rw [ees] at pm
      have pm2 : P1.Perm (pendL Z) := by
        have : (P1 ++ []).Perm (pendL Z) := pm
        rw [List.append_nil] at this
        exact this
      refine ⟨_, rfl, P1, Pa, ps, rfl, SqL.of hP, kP, fun zs q kz nq => ?_⟩
      have s4 : Same G (upd G q (.lst zs)) := same_new nq
      have hq : upd G q (.lst zs) q = some (.lst zs) := upd_same
      have kz2 := KeyVs.up (Tups.ext s4) _ _ kz
      generalize upd G q (.lst zs) = G2 at s4 hq kz2 ⊢
      refine ⟨q, zs, rfl, .inl ⟨SqL.of hq, fun a na => ?_⟩⟩
      have s5 : Same G2 (upd G2 a (.tup zs)) := same_new na
      exact go a _ _ (sG.trans (s4.trans s5)) (sorted_mon pm2 nd) (kv_mon.mpr ⟨a, zs, rfl, .inl upd_same, KeyVs.up (Tups.ext s5) _ _ kz2⟩)
    · refine ifY (by cases ws with
        | nil => exact absurd rfl we
        | cons _ _ => rfl) ⟨fun σ' H' => ∃ m', m' < meas es ∧ IV m' σ' H', fun _ _ h => h, ?_⟩
      obtain ⟨ws', v, ew⟩ : ∃ ws' v, ws = ws' ++ [v] := ⟨ws.dropLast, ws.getLast we, (List.dropLast_concat_getLast we).symm⟩
      subst ew
      obtain ⟨es', e, rfl, aW', tq, rfl, htq, hle⟩ := aW.pop
      rw [meas_app] at ml
      have me : meas [e] = max 1 (2 * e.2 - 1) := by show max 1 (2 * e.2 - 1) + 0 = _; omega
      rw [List.flatMap_append] at pm
      have fe : [e].flatMap (fun e => pendL (seg Z e)) = pendL (seg Z e) := List.flatMap_singleton ..
      rw [fe] at pm
      refine ⟨_, rfl, .inl ⟨rfl, _, SqL.of hW⟩, W, _, _, rfl, rfl, hW, last_at _ _, ?_⟩
      rw [List.dropLast_concat]
      have u1 := up (o := .lst ws') hW
      have hW1 : upd G W (.lst ws') W = some (.lst ws') := upd_same
      have hP1 : upd G W (.lst ws') Pa = some (.lst ps) := (upd_ne PW).trans hP
      have sG1 : Same H (upd G W (.lst ws')) := fun b o q => (upd_ne (fun z => by rw [z, HW] at q; cases q)).trans (sG _ _ q)
      have aW1 : AllV (EntV r Z (upd G W (.lst ws'))) es' ws' := aW'.mono fun _ _ q => q.up u1
      have kP1 := KeyVs.up (K := K) (Tups.put (o := .lst ws') fun xs q => by
        rcases q with q | ⟨o, q⟩
        · rw [hW] at q; cases q
        · rw [hW] at q; cases q) _ _ kP
      have htq1 := u1 _ _ htq
      generalize upd G W (.lst ws') = G1 at hW1 hP1 sG1 aW1 kP1 htq1 ⊢
      have HPa : H Pa = none := nP
      refine ⟨tq, _, rfl, SqT.of htq1, rfl, _, _, rfl, _, _, rfl, _, _, rfl, rfl, ?_⟩
      have lsg : (seg Z e).length = e.2 := seg_len (s := e.1) (c := e.2) hle
      have dsg : ∀ x ∈ seg Z e, x.2 < r := fun x hx => dl x (List.mem_of_mem_drop (List.mem_of_mem_take hx))
      have les : es'.length ≤ meas es' := by
        have : ∀ l : List (Nat × Nat), l.length ≤ meas l := by
          intro l
          induction l with
          | nil => exact Nat.le_refl _
          | cons x l ih =>
            show l.length + 1 ≤ max 1 (2 * x.2 - 1) + meas l
            omega
        exact this es'
      refine ⟨_, rfl, rfl, _, rfl, ?_⟩
      by_cases hz : numZ r (seg Z e) = 0
      · refine ifY (by rw [hz]; rfl) ⟨meas es', by rw [meas_app, me]; omega, _, _, _, _, _, P1, ps, es', ws', rfl, sG1, hP1, kP1, hW1, aW1, ?_, rfl, by omega⟩
        have z0 : ∀ x ∈ seg Z e, x.2 = 0 := fun x hx => by
          have r0 : 0 < r := Nat.lt_of_le_of_lt (Nat.zero_le _) (dsg x hx)
          exact numD_zero r0 hz x.2 (List.mem_map.mpr ⟨x, hx, rfl⟩)
        rw [pendL_zero z0, List.append_nil] at pm
        exact pm
      · refine ifN (by simp; exact hz) ⟨_, rfl, rfl, _, rfl, ?_⟩
        by_cases h1e : e.2 = 1
        · have i0 : e.1 < Z.length := by omega
          obtain ⟨x, hx⟩ : ∃ x, Z[e.1]? = some x := ⟨Z[e.1], List.getElem?_eq_getElem i0⟩
          have sg : seg Z e = [x] := by
            unfold seg
            rw [h1e, List.drop_eq_getElem_cons i0, (List.getElem?_eq_some_iff.mp hx).2]
            rfl
          have nz : numZ r (seg Z e) = x.2 := by rw [sg]; show x.2 + r * 0 = _; omega
          have hn : (((Z.map (·.1)).map V.str))[e.1]? = some (.str x.1) := by rw [List.getElem?_map, List.getElem?_map, hx]; rfl
          refine ifY (by rw [h1e]; rfl) ⟨_, rfl, .inl ⟨rfl, _, SqL.of hP1⟩, _, rfl, p, C, dx, _, _, rfl, sG1 _ _ h0, T.cl, T.nN, f_names, _, rfl, l1, _, _, _, rfl, rfl, SqL.of (sG1 _ _ h1), atI_nat hn, _, rfl, by show 2 ≤ sizeLine; decide, fun q nq => ?_⟩
          have s4 : Same G1 (upd G1 q (.tup [.str x.1, .int (numZ r (seg Z e) : Int)])) := same_new nq
          have hq : upd G1 q (.tup [.str x.1, .int (numZ r (seg Z e) : Int)]) q = some (.tup [.str x.1, .int (numZ r (seg Z e) : Int)]) := upd_same
          generalize upd G1 q (.tup [.str x.1, .int (numZ r (seg Z e) : Int)]) = G2 at s4 hq ⊢
          have hP2 := s4 _ _ hP1
          have u2 := up (o := .lst (ps ++ [.ref q])) hP2
          have lps := keyVs_len kP1
          rw [List.length_map] at lps
          have lP := pm.length_eq
          rw [List.length_append] at lP
          refine ⟨Pa, _, _, rfl, rfl, hP2, by rw [lps, sizeLine_eq]; omega, ?_⟩
          refine ⟨meas es', by rw [meas_app, me]; omega, _, _, _, _, _, P1 ++ [(x.1, (x.2 : Int))], ps ++ [.ref q], es', ws', rfl, fun b o qq => (upd_ne (fun z => by rw [z, HPa] at qq; cases qq)).trans (s4 _ _ (sG1 _ _ qq)), upd_same, ?_, (upd_ne (Ne.symm PW)).trans (s4 _ _ hW1), aW1.mono fun _ _ z => (z.up fun t ys q => s4 _ _ q).up u2, ?_, rfl, by omega⟩
          · rw [List.map_append]
            rw [nz] at hq
            exact keyVs_app (KeyVs.up (K := K) (Tups.put (o := .lst (ps ++ [.ref q])) fun xs qq => by
              rcases qq with qq | ⟨o, qq⟩
              · rw [hP2] at qq; cases qq
              · rw [hP2] at qq; cases qq) _ _ (KeyVs.up (Tups.ext s4) _ _ kP1)) (.cons (kv_fac.mpr ⟨q, rfl, u2 _ _ hq⟩) .nil)
          · have ep : pendL (seg Z e) = [(x.1, (x.2 : Int))] := by
              rw [sg]
              unfold pendL
              rw [nz] at hz
              rw [List.filterMap_cons, if_neg hz]
              rfl
            rw [ep] at pm
            refine List.Perm.trans ?_ pm
            rw [List.append_assoc]
            exact List.Perm.append_left P1 List.perm_append_comm
        · refine ifN (by simp; omega) ?_
          have c2 : 2 ≤ e.2 := by
            rcases Nat.lt_or_ge e.2 2 with q | q
            · have : e.2 = 0 := by omega
              have : (seg Z e) = [] := List.length_eq_zero_iff.mp (by rw [lsg, this])
              rw [this] at hz
              exact absurd rfl hz
            · exact q
          obtain ⟨h, hh⟩ : ∃ h : Nat, h = e.2 / 2 := ⟨_, rfl⟩
          have ih : ((e.2 : Nat) : Int) / 2 = ((h : Nat) : Int) := by rw [hh]; omega
          have hle2 : h ≤ e.2 := by omega
          have h1' : 1 ≤ h := by omega
          have r0 : 0 < r := by
            rcases Nat.eq_zero_or_pos r with q | q
            · have : 0 < (seg Z e).length := by omega
              have := dsg _ (List.getElem_mem this)
              omega
            · exact q
          have hn : h ≤ Z.length := by omega
          have dsl : ∀ d ∈ (seg Z e).map (·.2), d < r := fun d hd => by
            obtain ⟨x, hx, rfl⟩ := List.mem_map.mp hd
            exact dsg x hx
          have lsm : ((seg Z e).map (·.2)).length = e.2 := by rw [List.length_map, lsg]
          have ed : (numZ r (seg Z e) : Int) / ((r ^ h : Nat) : Int) = ((numZ r (seg Z (e.1 + h, e.2 - h)) : Nat) : Int) := by
            rw [← Int.natCast_ediv]
            congr 1
            show numD r ((seg Z e).map (·.2)) / r ^ h = _
            rw [numD_div dsl (by omega) r0, ← List.map_drop]
            show numZ r ((seg Z (e.1, e.2)).drop h) = _
            rw [seg_high Z e.1 e.2 h hle2]
          have em : (numZ r (seg Z e) : Int) % ((r ^ h : Nat) : Int) = ((numZ r (seg Z (e.1, h)) : Nat) : Int) := by
            rw [← Int.natCast_emod]
            congr 1
            show numD r ((seg Z e).map (·.2)) % r ^ h = _
            rw [numD_mod dsl (by omega), ← List.map_take]
            show numZ r ((seg Z (e.1, e.2)).take h) = _
            rw [seg_low Z e.1 e.2 h hle2]
          refine ⟨_, rfl, _, rfl, p, C, dx, _, _, rfl, sG1 _ _ h0, T.cl, T.nW, f_weights, _, rfl, _, _, rfl, rfl, ⟨by decide, by decide⟩, l2, _, _, _, rfl, rfl, SqL.of (sG1 _ _ h2), (show atI _ (((e.2 : Nat) : Int) / 2) = some _ by rw [ih]; exact atI_nat (wts_at hn)), _, _, rfl, ⟨by have := Nat.pow_pos (n := h) r0; omega, PyProof.noPylong_of_log2 (log_lt (Nat.lt_of_le_of_lt (Nat.pow_le_pow_right r0 hn) rb))⟩, fun q nq => ?_⟩
          rw [ed, em]
          have s4 : Same G1 (upd G1 q (.tup [.int ((numZ r (seg Z (e.1 + h, e.2 - h)) : Nat) : Int), .int ((numZ r (seg Z (e.1, h)) : Nat) : Int)])) := same_new nq
          have hq : upd G1 q (.tup [.int ((numZ r (seg Z (e.1 + h, e.2 - h)) : Nat) : Int), .int ((numZ r (seg Z (e.1, h)) : Nat) : Int)]) q = some (.tup [.int ((numZ r (seg Z (e.1 + h, e.2 - h)) : Nat) : Int), .int ((numZ r (seg Z (e.1, h)) : Nat) : Int)]) := upd_same
          generalize upd G1 q (.tup [.int ((numZ r (seg Z (e.1 + h, e.2 - h)) : Nat) : Int), .int ((numZ r (seg Z (e.1, h)) : Nat) : Int)]) = G2 at s4 hq ⊢
          have hW2 := s4 _ _ hW1
          have aW2 : AllV (EntV r Z G2) es' ws' := aW1.mono fun _ _ z => z.up fun t ys q => s4 _ _ q
          refine ⟨q, _, rfl, SqT.of hq, rfl, _, _, rfl, _, _, rfl, rfl, ?_⟩
          refine ⟨_, rfl, .inl ⟨rfl, _, SqL.of hW2⟩, _, rfl, _, rfl, _, rfl, _, _, rfl, rfl, ⟨by decide, by decide⟩, by show 3 ≤ sizeLine; decide, fun a na => ?_⟩
          dsimp only
          rw [ih]
          have s5 : Same G2 (upd G2 a (.tup [.int ((numZ r (seg Z (e.1, h)) : Nat) : Int), .int (e.1 : Int), .int (h : Int)])) := same_new na
          have ha : upd G2 a (.tup [.int ((numZ r (seg Z (e.1, h)) : Nat) : Int), .int (e.1 : Int), .int (h : Int)]) a = some (.tup [.int ((numZ r (seg Z (e.1, h)) : Nat) : Int), .int (e.1 : Int), .int (h : Int)]) := upd_same
          generalize upd G2 a (.tup [.int ((numZ r (seg Z (e.1, h)) : Nat) : Int), .int (e.1 : Int), .int (h : Int)]) = G3 at s5 ha ⊢
          have hW3 := s5 _ _ hW2
          have lw := aW1.1
          have aW3 : AllV (EntV r Z G3) (es' ++ [(e.1, h)]) (ws' ++ [.ref a]) := (aW2.mono fun _ _ z => z.up fun t ys q => s5 _ _ q).snoc ⟨a, rfl, ha, by show e.1 + h ≤ _; omega⟩
          refine ⟨W, _, _, rfl, rfl, hW3, by rw [lw, sizeLine_eq]; omega, ?_⟩
          have u3 := up (o := .lst (ws' ++ [.ref a])) hW3
          have hW4 : upd G3 W (.lst (ws' ++ [.ref a])) W = some (.lst (ws' ++ [.ref a])) := upd_same
          have s6 : ∀ b o, b ≠ W → G1 b = some o → upd G3 W (.lst (ws' ++ [.ref a])) b = some o := fun b o ne z => (upd_ne ne).trans (s5 _ _ (s4 _ _ z))
          have aW4 : AllV (EntV r Z (upd G3 W (.lst (ws' ++ [.ref a])))) (es' ++ [(e.1, h)]) (ws' ++ [.ref a]) := aW3.mono fun _ _ z => z.up u3
          generalize upd G3 W (.lst (ws' ++ [.ref a])) = G4 at hW4 s6 aW4 ⊢
          refine ⟨_, rfl, .inl ⟨rfl, _, SqL.of hW4⟩, _, rfl, _, rfl, _, rfl, _, _, rfl, rfl, ⟨by decide, by decide⟩, _, _, rfl, rfl, _, rfl, _, rfl, _, _, rfl, rfl, ⟨by decide, by decide⟩, _, _, rfl, rfl, by show 3 ≤ sizeLine; decide, fun a2 na2 => ?_⟩
          have i2 : ((e.1 : Nat) : Int) + ((e.2 : Nat) : Int) / 2 = ((e.1 + h : Nat) : Int) := by omega
          have i3 : ((e.2 : Nat) : Int) - ((e.2 : Nat) : Int) / 2 = ((e.2 - h : Nat) : Int) := by omega
          dsimp only
          rw [i2, i3]
          have s7 : Same G4 (upd G4 a2 (.tup [.int ((numZ r (seg Z (e.1 + h, e.2 - h)) : Nat) : Int), .int ((e.1 + h : Nat) : Int), .int ((e.2 - h : Nat) : Int)])) := same_new na2
          have ha2 : upd G4 a2 (.tup [.int ((numZ r (seg Z (e.1 + h, e.2 - h)) : Nat) : Int), .int ((e.1 + h : Nat) : Int), .int ((e.2 - h : Nat) : Int)]) a2 = some (.tup [.int ((numZ r (seg Z (e.1 + h, e.2 - h)) : Nat) : Int), .int ((e.1 + h : Nat) : Int), .int ((e.2 - h : Nat) : Int)]) := upd_same
          generalize upd G4 a2 (.tup [.int ((numZ r (seg Z (e.1 + h, e.2 - h)) : Nat) : Int), .int ((e.1 + h : Nat) : Int), .int ((e.2 - h : Nat) : Int)]) = G5 at s7 ha2 ⊢
          have hW5 := s7 _ _ hW4
          have aW5 : AllV (EntV r Z G5) (es' ++ [(e.1, h)] ++ [(e.1 + h, e.2 - h)]) (ws' ++ [.ref a] ++ [.ref a2]) := (aW4.mono fun _ _ z => z.up fun t ys q => s7 _ _ q).snoc ⟨a2, rfl, ha2, by show e.1 + h + (e.2 - h) ≤ _; omega⟩
          refine ⟨W, _, _, rfl, rfl, hW5, by rw [List.length_append, lw, sizeLine_eq]; show es'.length + 1 < _; omega, ?_⟩
          have u5 := up (o := .lst (ws' ++ [.ref a] ++ [.ref a2])) hW5
          have t4 : ∀ t ys, G1 t = some (.tup ys) → upd G5 W (.lst (ws' ++ [.ref a] ++ [.ref a2])) t = some (.tup ys) := fun t ys z => u5 _ _ (s7 _ _ (s6 _ _ (fun w => by rw [w, hW1] at z; cases z) z))
          have nm : meas (es' ++ [(e.1, h)] ++ [(e.1 + h, e.2 - h)]) + 1 ≤ meas (es' ++ [e]) := by
            rw [meas_app, meas_app, meas_app, me]
            show meas es' + (max 1 (2 * h - 1) + 0) + (max 1 (2 * (e.2 - h) - 1) + 0) + 1 ≤ _
            omega
          refine ⟨meas (es' ++ [(e.1, h)] ++ [(e.1 + h, e.2 - h)]), by omega, _, _, _, _, _, P1, ps, _, _, rfl, fun b o qq => ?_, ?_, KeyVs.up (K := K) ⟨t4, fun t o ys z => by
            have ne : t ≠ W := fun w => by rw [w, hW1] at z; cases z
            exact (upd_ne ne).trans (s7 _ _ (s6 _ _ ne z))⟩ _ _ kP1, upd_same, aW5.mono fun _ _ z => z.up u5, ?_, rfl, by have mm := meas_app es' [e]; omega⟩
          · have nW' : b ≠ W := fun z => by rw [z, HW] at qq; cases qq
            exact (upd_ne nW').trans (s7 _ _ (s6 _ _ nW' (sG1 _ _ qq)))
          · exact (upd_ne PW).trans (s7 _ _ (s6 _ _ PW hP1))
          · have ep : pendL (seg Z e) = pendL (seg Z (e.1, h)) ++ pendL (seg Z (e.1 + h, e.2 - h)) := by
              rw [← seg_low Z e.1 e.2 h hle2, ← seg_high Z e.1 e.2 h hle2, ← pendL_app, List.take_append_drop]
            rw [ep] at pm
            rw [List.flatMap_append, List.flatMap_append, List.flatMap_singleton, List.flatMap_singleton, List.append_assoc]
            exact pm
end
end K2P

set_option Elab.async false
set_option linter.all false
set_option maxRecDepth 100000
set_option maxHeartbeats 4000000
set_option autoImplicit false
/-! Monomials as exponents by names, polynomials as what they sum up to. Maths. -/
namespace K2P
open PySem L2 K1D
abbrev Expo := Str → Nat
noncomputable instance expoDec : DecidableEq Expo := fun a b => Classical.propDecidable (a = b)
def addE (a b : Expo) : Expo := fun n => a n + b n
def oneE : Expo := fun _ => 0
theorem addE_comm (a b : Expo) : addE a b = addE b a := funext fun n => Nat.add_comm _ _
theorem addE_assoc (a b c : Expo) : addE (addE a b) c = addE a (addE b c) := funext fun n => Nat.add_assoc _ _ _
theorem addE_one (a : Expo) : addE oneE a = a := funext fun n => Nat.zero_add _
def exM : Mon → Expo
  | [] => oneE
  | x :: ms => fun n => (if x.1 = n then x.2.toNat else 0) + exM ms n
theorem exM_out : ∀ {ms : Mon} {n : Str}, (∀ x ∈ ms, x.1 ≠ n) → exM ms n = 0
  | [], _, _ => rfl
  | x :: ms, n, h => by
    show (if x.1 = n then x.2.toNat else 0) + exM ms n = 0
    rw [if_neg (h x (List.mem_cons_self ..)), exM_out fun y hy => h y (List.mem_cons_of_mem _ hy)]
theorem exM_at : ∀ {ms : Mon}, (ms.map (·.1)).Nodup → ∀ {x}, x ∈ ms → exM ms x.1 = x.2.toNat
  | [], _, _, h => nomatch h
  | y :: ms, nd, x, h => by
    have nd' := List.nodup_cons.mp nd
    show (if y.1 = x.1 then y.2.toNat else 0) + exM ms x.1 = _
    rcases List.mem_cons.mp h with e | h
    · subst e
      rw [if_pos rfl, exM_out fun z hz e => nd'.1 (List.mem_map.mpr ⟨z, hz, e⟩), Nat.add_zero]
    · rw [if_neg fun e => nd'.1 (List.mem_map.mpr ⟨x, h, e.symm⟩), exM_at nd'.2 h, Nat.zero_add]
theorem exM_perm {a b : Mon} (h : a.Perm b) : exM a = exM b := by
  induction h with
  | nil => rfl
  | cons x _ ih => exact funext fun n => by show _ + exM _ n = _ + exM _ n; rw [ih]
  | swap x y l => exact funext fun n => by show _ + (_ + exM l n) = _ + (_ + exM l n); omega
  | trans _ _ h g => exact h.trans g
theorem sorted_ext {α : Type} {R : α → α → Prop} (as : ∀ a b, R a b → ¬ R b a) : ∀ {l m : List α}, l.Pairwise R → m.Pairwise R → (∀ x, x ∈ l ↔ x ∈ m) → l = m
  | [], [], _, _, _ => rfl
  | [], b :: m, _, _, h => by have := (h b).mpr List.mem_cons_self; cases this
  | a :: l, [], _, _, h => by have := (h a).mp List.mem_cons_self; cases this
  | a :: l, b :: m, h1, h2, h => by
    rw [List.pairwise_cons] at h1 h2
    have e : a = b := by
      rcases List.mem_cons.mp ((h a).mp List.mem_cons_self) with e | ha
      · exact e
      · rcases List.mem_cons.mp ((h b).mpr List.mem_cons_self) with e | hb
        · exact e.symm
        · exact absurd (h1.1 b hb) (as _ _ (h2.1 a ha))
    subst e
    have irr : ∀ x, ¬ R x x := fun x q => as x x q q
    rw [sorted_ext as h1.2 h2.2 fun x => ?_]
    constructor
    · intro hx
      rcases List.mem_cons.mp ((h x).mp (List.mem_cons_of_mem _ hx)) with e | q
      · subst e; exact absurd (h1.1 _ hx) (irr _)
      · exact q
    · intro hx
      rcases List.mem_cons.mp ((h x).mpr (List.mem_cons_of_mem _ hx)) with e | q
      · subst e; exact absurd (h2.1 _ hx) (irr _)
      · exact q
theorem MonOk.nd {m : Mon} (h : MonOk m) : (m.map (·.1)).Nodup := List.pairwise_map.mpr (h.up.imp fun {a b} q e => by rw [e] at q; exact List.lt_irrefl _ q)
theorem MonOk.mem {m : Mon} (h : MonOk m) (x : Fac) : x ∈ m ↔ 1 ≤ exM m x.1 ∧ x.2 = exM m x.1 := by
  constructor
  · intro hx
    have := h.ge x hx
    rw [exM_at h.nd hx]
    omega
  · rintro ⟨h1, h2⟩
    by_cases q : ∃ y ∈ m, y.1 = x.1
    · obtain ⟨y, hy, e⟩ := q
      have h3 := exM_at h.nd hy
      have h4 := h.ge y hy
      rw [e] at h3
      have : x = y := Prod.ext e.symm (by omega)
      rw [this]; exact hy
    · have := exM_out (ms := m) (n := x.1) fun y hy e => q ⟨y, hy, e⟩
      omega
theorem MonOk.ext {a b : Mon} (ha : MonOk a) (hb : MonOk b) (e : exM a = exM b) : a = b :=
  sorted_ext (R := fun x y : Fac => x.1.cps.toList < y.1.cps.toList) (fun x y h g => List.lt_irrefl _ (List.lt_trans h g)) ha.up hb.up fun x => by rw [ha.mem, hb.mem, e]
/-! ### polynomials -/
structure PolyOk (p : Poly) : Prop where
  ok : ∀ t ∈ p, MonOk t.1 ∧ t.2 ≠ 0
  up : p.Pairwise fun a b => ltM a.1 b.1
def liftP (p : Poly) : List (Expo × Int) := p.map fun t => (exM t.1, t.2)
noncomputable def semP (p : Poly) (f : Expo) : Int := tot (liftP p) f
theorem PolyOk.nd {p : Poly} (h : PolyOk p) : (p.map (·.1)).Nodup := List.pairwise_map.mpr (h.up.imp fun {a b} q e => by rw [e] at q; exact ltM_irr _ q)
theorem PolyOk.exnd {p : Poly} (h : PolyOk p) : ((liftP p).map (·.1)).Nodup := by
  unfold liftP
  rw [List.map_map, List.Nodup, List.pairwise_map]
  have := List.pairwise_map.mp h.nd
  exact this.imp_of_mem fun {a b} ha hb ne e => ne ((h.ok a ha).1.ext (h.ok b hb).1 e)
theorem tot_mem {α : Type} [DecidableEq α] : ∀ {l : List (α × Int)}, (l.map (·.1)).Nodup → ∀ {k : α} {c : Int}, (k, c) ∈ l → tot l k = c
  | [], _, _, _, h => nomatch h
  | x :: l, nd, k, c, h => by
    have nd' := List.nodup_cons.mp nd
    show (if x.1 = k then x.2 else 0) + tot l k = c
    rcases List.mem_cons.mp h with e | h
    · rw [← e, if_pos rfl, tot_none fun y hy q => nd'.1 (List.mem_map.mpr ⟨y, hy, by rw [q, ← e]⟩), Int.add_zero]
    · rw [if_neg fun q => nd'.1 (List.mem_map.mpr ⟨_, h, q.symm⟩), tot_mem nd'.2 h, Int.zero_add]
theorem tot_keyA {α : Type} [DecidableEq α] {l : List (α × Int)} {k : α} (h : tot l k ≠ 0) : k ∈ l.map (·.1) := Classical.byContradiction fun n => h (tot_none fun x hx e => n (List.mem_map.mpr ⟨x, hx, e⟩))
theorem PolyOk.sem {p : Poly} (h : PolyOk p) {t : Term} (ht : t ∈ p) : semP p (exM t.1) = t.2 := tot_mem h.exnd (List.mem_map.mpr ⟨t, ht, rfl⟩)
theorem PolyOk.mem {p : Poly} (h : PolyOk p) (t : Term) : t ∈ p ↔ MonOk t.1 ∧ t.2 ≠ 0 ∧ semP p (exM t.1) = t.2 := by
  constructor
  · intro ht
    exact ⟨(h.ok t ht).1, (h.ok t ht).2, h.sem ht⟩
  · rintro ⟨h1, h2, h3⟩
    obtain ⟨z, hz, e⟩ := List.mem_map.mp (tot_keyA (l := liftP p) (k := exM t.1) (by rw [show tot (liftP p) (exM t.1) = t.2 from h3]; exact h2))
    obtain ⟨y, hy, rfl⟩ := List.mem_map.mp hz
    have ey := (h.ok y hy).1.ext h1 e
    have := h.sem hy
    rw [ey, h3] at this
    rw [show t = y from Prod.ext ey.symm this]
    exact hy
/-- one polynomial by what it sums up to -/
theorem PolyOk.ext {p q : Poly} (hp : PolyOk p) (hq : PolyOk q) (e : ∀ f, semP p f = semP q f) : p = q :=
  sorted_ext (R := fun a b : Term => ltM a.1 b.1) (fun a b h => ltM_asy h) hp.up hq.up fun t => by rw [hp.mem, hq.mem, e]
/-! ### keys -/
def Dom (ns : List Str) (r : Nat) (f : Expo) : Prop := (∀ x, x ∉ ns → f x = 0) ∧ ∀ x ∈ ns, f x < r
def keyE (ns : List Str) (r : Nat) (f : Expo) : Nat := numD r (ns.map f)
theorem keyE_inj {ns : List Str} {r : Nat} {f g : Expo} (hf : Dom ns r f) (hg : Dom ns r g) (e : keyE ns r f = keyE ns r g) : f = g := by
  have m := numD_inj (by rw [List.length_map, List.length_map]) (fun d hd => by obtain ⟨x, hx, rfl⟩ := List.mem_map.mp hd; exact hf.2 x hx) (fun d hd => by obtain ⟨x, hx, rfl⟩ := List.mem_map.mp hd; exact hg.2 x hx) e
  funext x
  by_cases hx : x ∈ ns
  · exact List.map_inj_left.mp m x hx
  · rw [hf.1 x hx, hg.1 x hx]
theorem keyE_add (ns : List Str) (r : Nat) (f g : Expo) : keyE ns r (addE f g) = keyE ns r f + keyE ns r g := by
  unfold keyE
  rw [numD_add r (by rw [List.length_map, List.length_map])]
  congr 1
  induction ns with
  | nil => rfl
  | cons x ns ih => rw [List.map_cons, List.map_cons, List.map_cons, List.zipWith_cons_cons, ← ih]; rfl
theorem numD_zeros {r : Nat} : ∀ {l : List Nat}, (∀ d ∈ l, d = 0) → numD r l = 0
  | [], _ => rfl
  | d :: l, h => by
    show d + r * numD r l = 0
    rw [h d List.mem_cons_self, numD_zeros fun x hx => h x (List.mem_cons_of_mem _ hx)]
    simp
theorem keyE_one {ns : List Str} {r i e : Nat} {x : Str} (nd : ns.Nodup) (h : ns[i]? = some x) : keyE ns r (fun n => if x = n then e else 0) = e * r ^ i := by
  unfold keyE
  induction ns generalizing i with
  | nil => simp at h
  | cons y ns ih =>
    have nd' := List.nodup_cons.mp nd
    rw [List.map_cons]
    show (if x = y then e else 0) + r * numD r (ns.map _) = _
    cases i with
    | zero =>
      simp only [List.getElem?_cons_zero, Option.some.injEq] at h
      subst h
      rw [if_pos rfl, numD_zeros fun d hd => ?_]
      · simp
      · obtain ⟨z, hz, rfl⟩ := List.mem_map.mp hd
        exact if_neg fun q => nd'.1 (by rw [q]; exact hz)
    | succ i =>
      simp only [List.getElem?_cons_succ] at h
      rw [ih nd'.2 h, if_neg fun q => nd'.1 (by rw [← q]; exact List.mem_of_getElem? h), Nat.pow_succ]
      rw [Nat.zero_add, Nat.mul_left_comm, Nat.mul_comm r (r ^ i)]
theorem keyM_eq {ns : List Str} {r : Nat} (nd : ns.Nodup) : ∀ {m : Mon}, (∀ f ∈ m, f.1 ∈ ns) → (∀ f ∈ m, 0 ≤ f.2) → keyM ns r m = (keyE ns r (exM m) : Int)
  | [], _, _ => by
    show (0 : Int) = _
    rw [show keyE ns r (exM []) = 0 from numD_zeros fun d hd => by obtain ⟨x, _, rfl⟩ := List.mem_map.mp hd; rfl]
    rfl
  | f :: m, h1, h2 => by
    obtain ⟨i, hi⟩ := List.mem_iff_getElem?.mp (h1 f List.mem_cons_self)
    have ih := keyM_eq nd (r := r) (m := m) (fun x hx => h1 x (List.mem_cons_of_mem _ hx)) fun x hx => h2 x (List.mem_cons_of_mem _ hx)
    have e : exM (f :: m) = addE (fun n => if f.1 = n then f.2.toNat else 0) (exM m) := rfl
    show f.2 * wOf ns r f.1 + keyM ns r m = _
    rw [e, keyE_add, keyE_one nd hi, ih, wOf_at nd hi]
    have := h2 f List.mem_cons_self
    have e2 : f.2 = ((f.2.toNat : Nat) : Int) := (Int.toNat_of_nonneg this).symm
    rw [e2]
    push_cast
    simp
theorem dom_exM {ns : List Str} {r : Nat} {m : Mon} (h : MonOk m) (h1 : ∀ f ∈ m, f.1 ∈ ns) (h2 : ∀ f ∈ m, f.2 < r) (r0 : 0 < r) : Dom ns r (exM m) := by
  refine ⟨fun x hx => exM_out fun f hf e => hx (by rw [← e]; exact h1 f hf), fun x hx => ?_⟩
  by_cases q : ∃ f ∈ m, f.1 = x
  · obtain ⟨f, hf, rfl⟩ := q
    rw [exM_at h.nd hf]
    have := h2 f hf
    have := h.ge f hf
    omega
  · rw [exM_out fun f hf e => q ⟨f, hf, e⟩]
    exact r0
theorem dom_add {ns : List Str} {r : Nat} {f g : Expo} (h1 : ∀ x, x ∉ ns → f x = 0) (h2 : ∀ x, x ∉ ns → g x = 0) (h : ∀ x ∈ ns, f x + g x < r) : Dom ns r (addE f g) :=
  ⟨fun x hx => by show f x + g x = 0; rw [h1 x hx, h2 x hx], h⟩
/-- the digits of an exponent -/
def zOf (ns : List Str) (f : Expo) : Dgs := ns.map fun x => (x, f x)
theorem zOf_names (ns : List Str) (f : Expo) : (zOf ns f).map (·.1) = ns := by
  unfold zOf
  rw [List.map_map]
  exact List.map_id'' (fun _ => rfl) ns
theorem zOf_num (ns : List Str) (r : Nat) (f : Expo) : numZ r (zOf ns f) = keyE ns r f := by
  unfold numZ zOf keyE
  rw [List.map_map]
  rfl
theorem exM_pend {ns : List Str} {f : Expo} (nd : ns.Nodup) (out : ∀ x, x ∉ ns → f x = 0) : exM (pendL (zOf ns f)) = f := by
  funext x
  have np := pend_nd (Z := zOf ns f) (by rw [zOf_names]; exact nd)
  have mem : ∀ g ∈ pendL (zOf ns f), g.1 ∈ ns ∧ g.2 = f g.1 ∧ f g.1 ≠ 0 := fun g hg => by
    obtain ⟨z, hz, e⟩ := List.mem_filterMap.mp hg
    obtain ⟨y, hy, rfl⟩ := List.mem_map.mp hz
    split at e
    · cases e
    · rename_i hne
      cases e
      exact ⟨hy, rfl, hne⟩
  by_cases h0 : f x = 0
  · rw [h0]
    exact exM_out fun g hg e => by
      obtain ⟨_, _, h⟩ := mem g hg
      rw [e] at h
      exact h h0
  · have hx : x ∈ ns := Classical.byContradiction fun n => h0 (out x n)
    have : (x, (f x : Int)) ∈ pendL (zOf ns f) := List.mem_filterMap.mpr ⟨(x, f x), List.mem_map.mpr ⟨x, hx, rfl⟩, if_neg h0⟩
    rw [exM_at np this]
    show ((f x : Int)).toNat = f x
    omega
theorem MonOf.ex {ns : List Str} {f : Expo} {m : Mon} (h : MonOf (zOf ns f) m) (nd : ns.Nodup) (out : ∀ x, x ∉ ns → f x = 0) : exM m = f := (exM_perm h.perm).trans (exM_pend nd out)
/-! ### tables of keys -/
/-- the table of polynomial p, by keys, sums up to what p does -/
theorem tot_map {α β : Type} [DecidableEq α] [DecidableEq β] (k : α → β) {l : List (α × Int)} {a : α} (h : ∀ x ∈ l, k x.1 = k a → x.1 = a) : tot (l.map fun x => (k x.1, x.2)) (k a) = tot l a := tot_ren k h
/-- R is a table over these names of the polynomial function s -/
structure TabOf (ns : List Str) (r : Nat) (R : KI) (s : Expo → Int) : Prop where
  keys : ∀ x ∈ R, ∃ f, Dom ns r f ∧ x.1 = (keyE ns r f : Int)
  tot : ∀ f, Dom ns r f → K2P.tot R (keyE ns r f : Int) = s f
  out : ∀ f, ¬ Dom ns r f → s f = 0
def keyI (ns : List Str) (r : Nat) (f : Expo) : Int := (keyE ns r f : Int)
theorem keyI_inj {ns : List Str} {r : Nat} {f g : Expo} (hf : Dom ns r f) (hg : Dom ns r g) (e : keyI ns r f = keyI ns r g) : f = g := keyE_inj hf hg (Int.ofNat.inj e)
/-- a list of contributions within the names -/
theorem tabOf_lift {ns : List Str} {r : Nat} {L : List (Expo × Int)} {R : KI} (dm : ∀ x ∈ L, Dom ns r x.1) (ks : ∀ x ∈ R, ∃ y ∈ L, x.1 = keyI ns r y.1) (ht : ∀ j, K2P.tot R j = K2P.tot (L.map fun x => (keyI ns r x.1, x.2)) j) : TabOf ns r R (K2P.tot L) := by
  refine ⟨fun x hx => ?_, fun f hf => ?_, fun f hf => tot_none fun x hx e => hf (by rw [← e]; exact dm x hx)⟩
  · obtain ⟨y, hy, e⟩ := ks x hx
    exact ⟨y.1, dm y hy, e⟩
  · rw [ht]
    exact tot_map (keyI ns r) fun x hx e => keyI_inj (dm x hx) hf e
theorem tabOf_pack {ns : List Str} {r : Nat} {p : Poly} (nd : ns.Nodup) (hp : PolyOk p) (r0 : 0 < r) (h1 : ∀ t ∈ p, ∀ f ∈ t.1, f.1 ∈ ns ∧ f.2 < r) : packT ns r p = (liftP p).map (fun x => (keyI ns r x.1, x.2)) ∧ ∀ x ∈ liftP p, Dom ns r x.1 := by
  constructor
  · unfold packT liftP
    rw [List.map_map]
    refine List.map_congr_left fun t ht => ?_
    show (keyM ns r t.1, t.2) = (keyI ns r (exM t.1), t.2)
    rw [keyM_eq nd (fun f hf => (h1 t ht f hf).1) fun f hf => by have := (hp.ok t ht).1.ge f hf; omega]
    rfl
  · intro x hx
    obtain ⟨t, ht, rfl⟩ := List.mem_map.mp hx
    exact dom_exM (hp.ok t ht).1 (fun f hf => (h1 t ht f hf).1) (fun f hf => (h1 t ht f hf).2) r0
theorem prodL_map {α β : Type} [DecidableEq α] [DecidableEq β] (k : α → β) (op : α → α → α) (op' : β → β → β) (hk : ∀ a b, k (op a b) = op' (k a) (k b)) (q : List (α × Int)) : ∀ p : List (α × Int), prodL op' (p.map fun x => (k x.1, x.2)) (q.map fun x => (k x.1, x.2)) = (prodL op p q).map fun x => (k x.1, x.2)
  | [] => rfl
  | x :: p => by
    rw [List.map_cons, prodL_cons, prodL_cons, List.map_append, prodL_map k op op' hk q p]
    congr 1
    unfold rowL
    rw [List.map_map, List.map_map]
    refine List.map_congr_left fun y _ => ?_
    show (op' (k x.1) (k y.1), x.2 * y.2) = (k (op x.1 y.1), x.2 * y.2)
    rw [hk]
end K2P

set_option Elab.async false
set_option linter.all false
set_option maxRecDepth 100000
set_option maxHeartbeats 4000000
set_option autoImplicit false
set_option pp.maxSteps 600
/-! figurehold.fields: told. -/
namespace K2P
open PySem L2 K1D
abbrev sTold : Stmt := inClass (top 8) 3
theorem ltK_termK {a b : Term} (ne : a.1 ≠ b.1) : ltK (termK a) (termK b) = ltK (monK a.1) (monK b.1) := by
  have e : ltK (termK a) (termK b) = PySem.W.dataLt (.tuple [(monK a.1).data, .int a.2]) (.tuple [(monK b.1).data, .int b.2]) := by simp [ltK, termK, NestedKey.data, NestedKey.datas]
  have nq : PyData.eqv (monK a.1).data (monK b.1).data = false := by
    cases q : PyData.eqv (monK a.1).data (monK b.1).data with
    | false => rfl
    | true => exact absurd (monK_inj ((eqv_iff _ _).mp q)) ne
  rw [e, PySem.W.dataLt_pair (al_mon _ _) (by simp [PySem.W.alike]), nq, if_neg Bool.false_ne_true]
  rfl
theorem termK_inj {a b : Term} (h : termK a = termK b) : a = b := by
  unfold termK at h
  simp only [NestedKey.tup.injEq, List.cons.injEq, NestedKey.num.injEq, and_true] at h
  exact Prod.ext (monK_inj h.1) h.2
/-- P is the terms of T -/
structure TermsOf (ns : List Str) (r : Nat) (T : KI) (P : Poly) : Prop where
  eq : T = (liftP P).map fun x => (keyI ns r x.1, x.2)
  ok : ∀ t ∈ P, MonOk t.1 ∧ Dom ns r (exM t.1)
theorem TermsOf.len {ns : List Str} {r : Nat} {T : KI} {P : Poly} (h : TermsOf ns r T P) : P.length = T.length := by
  rw [h.eq, List.length_map]
  unfold liftP
  rw [List.length_map]
/-- the polynomial of a table -/
structure ToldP (ns : List Str) (r : Nat) (T : KI) (p : Poly) : Prop where
  ok : PolyOk p
  len : p.length = T.length
  sem : ∀ g, Dom ns r g → semP p g = K2P.tot T (keyI ns r g)
  out : ∀ g, ¬ Dom ns r g → semP p g = 0
  cs : ∀ t ∈ p, ∃ x ∈ T, x.2 = t.2
  dom : ∀ t ∈ p, Dom ns r (exM t.1)
  perm : (p.map (·.2)).Perm (T.map (·.2))
theorem tot_permA {α : Type} [DecidableEq α] {a b : List (α × Int)} (h : a.Perm b) (k : α) : tot a k = tot b k := by
  induction h with
  | nil => rfl
  | cons x _ ih => show _ + tot _ k = _ + tot _ k; rw [ih]
  | swap x y l => show _ + (_ + tot l k) = _ + (_ + tot l k); omega
  | trans _ _ h g => exact h.trans g
theorem TermsOf.told {ns : List Str} {r : Nat} {T : KI} {P : Poly} (h : TermsOf ns r T P) (nd : (T.map (·.1)).Nodup) (nz : ∀ x ∈ T, x.2 ≠ 0) : ToldP ns r T (P.mergeSort (PySem.W.dataLe false fun t => (termK t).data)) := by
  have ps : (P.mergeSort (PySem.W.dataLe false fun t => (termK t).data)).Perm P := List.mergeSort_perm _ _
  have nm : (P.map (·.1)).Nodup := by
    rw [h.eq, List.map_map] at nd
    unfold liftP at nd
    rw [List.map_map] at nd
    have nd2 := List.pairwise_map.mp nd
    exact List.pairwise_map.mpr (nd2.imp fun {a b} ne e => ne (by show keyI ns r (exM a.1) = keyI ns r (exM b.1); rw [e]))
  have nP : P.Nodup := List.Pairwise.of_map (S := (· ≠ ·)) (fun x : Term => x.1) (fun a b ne e => ne (by rw [e])) nm
  have up := sortK_up (enc := termK) al_term (fun _ _ => termK_inj) nP
  have nS : ((P.mergeSort (PySem.W.dataLe false fun t => (termK t).data)).map (·.1)).Nodup := (ps.map (fun x : Term => x.1)).nodup_iff.mpr nm
  have cs : ∀ t ∈ P, ∃ x ∈ T, x.2 = t.2 := fun t ht => ⟨(keyI ns r (exM t.1), t.2), by rw [h.eq]; exact List.mem_map.mpr ⟨(exM t.1, t.2), List.mem_map.mpr ⟨t, ht, rfl⟩, rfl⟩, rfl⟩
  have pl : (liftP (P.mergeSort (PySem.W.dataLe false fun t => (termK t).data))).Perm (liftP P) := ps.map _
  refine ⟨⟨fun t ht => ?_, ?_⟩, by rw [ps.length_eq, h.len], fun g hg => ?_, fun g hg => ?_, fun t ht => cs t (ps.mem_iff.mp ht), fun t ht => (h.ok t (ps.mem_iff.mp ht)).2, ?_⟩
  · have ht := ps.mem_iff.mp ht
    obtain ⟨x, hx, e⟩ := cs t ht
    exact ⟨(h.ok t ht).1, by rw [← e]; exact nz x hx⟩
  · exact (up.and (List.pairwise_map.mp nS)).imp fun {a b} ⟨h, ne⟩ => by rw [ltK_termK ne] at h; exact h
  · show tot _ g = _
    rw [tot_permA pl, h.eq]
    refine (tot_map (keyI ns r) fun x hx e => ?_).symm
    obtain ⟨t, ht, rfl⟩ := List.mem_map.mp hx
    exact keyI_inj (h.ok t ht).2 hg e
  · show tot _ g = _
    rw [tot_permA pl]
    refine tot_none fun x hx e => ?_
    obtain ⟨t, ht, rfl⟩ := List.mem_map.mp hx
    exact hg (by rw [← e]; exact (h.ok t ht).2)
  · have e : T.map (·.2) = P.map (·.2) := by
      rw [h.eq]
      unfold liftP
      rw [List.map_map, List.map_map]
      rfl
    rw [e]
    exact ps.map _
/-- there is one -/
theorem terms_of {ns : List Str} {r : Nat} (ndn : ns.Nodup) : ∀ {T : KI}, (∀ x ∈ T, ∃ g, Dom ns r g ∧ x.1 = keyI ns r g) → ∃ P, TermsOf ns r T P
  | [], _ => ⟨[], rfl, fun t h => (nomatch h)⟩
  | x :: T, h => by
    obtain ⟨P, hP⟩ := terms_of ndn (T := T) fun y hy => h y (List.mem_cons_of_mem _ hy)
    obtain ⟨g, hg, e⟩ := h x List.mem_cons_self
    have mo := sorted_mon (P := pendL (zOf ns g)) (Z := zOf ns g) (List.Perm.refl _) (by rw [zOf_names]; exact ndn)
    have em := mo.ex ndn hg.1
    generalize (pendL (zOf ns g)).mergeSort (PySem.W.dataLe false fun b => (facK b).data) = m at mo em
    refine ⟨(m, x.2) :: P, ?_, fun t ht => ?_⟩
    · show x :: T = (keyI ns r (exM m), x.2) :: (liftP P).map _
      rw [← hP.eq, em, ← e]
    · rcases List.mem_cons.mp ht with q | q
      · rw [q]
        exact ⟨mo.ok, by show Dom ns r (exM m); rw [em]; exact hg⟩
      · exact hP.ok t q
theorem told_of {ns : List Str} {r : Nat} {T : KI} (ndn : ns.Nodup) (nd : (T.map (·.1)).Nodup) (h : ∀ x ∈ T, x.2 ≠ 0 ∧ ∃ g, Dom ns r g ∧ x.1 = keyI ns r g) : ∃ p, ToldP ns r T p := by
  obtain ⟨P, hP⟩ := terms_of ndn fun x hx => (h x hx).2
  exact ⟨_, hP.told nd fun x hx => (h x hx).1⟩
/-- the polynomial of a table by what the table sums up to -/
theorem ToldP.is {ns : List Str} {r : Nat} {T : KI} {p q : Poly} {s : Expo → Int} (h : ToldP ns r T p) (t : TabOf ns r T s) (hq : PolyOk q) (e : ∀ f, semP q f = s f) : p = q := by
  refine h.ok.ext hq fun f => ?_
  rw [e]
  by_cases d : Dom ns r f
  · rw [h.sem f d]
    exact t.tot f d
  · rw [h.out f d, t.out f d]
theorem fF_monomial {l1 l2 l3 : Addr} : (fF l1 l2 l3).lookup ("monomial" : Str) = none := by
  have h : (("monomial" : Str) == "names") = false := by decide +kernel
  have h2 : (("monomial" : Str) == "weights") = false := by decide +kernel
  have h3 : (("monomial" : Str) == "places") = false := by decide +kernel
  simp [fF, List.lookup, h, h2, h3]
theorem FieldsAt.lk {C : Addr} {H F : Hp} {f d : Addr} {ns : List Str} {r : Nat} {T : KI} {od : Obj} {u : HO} (h : FieldsAt C H f ns r) (hd : H d = some (.dK (mpT eI T))) (ne : T ≠ []) (l : LkT d od u H F) : FieldsAt C F f ns r := by
  obtain ⟨⟨dx, l1, l2, l3, h0, h1, h2, h3⟩, nd, n1, rk⟩ := h
  refine ⟨⟨dx, l1, l2, l3, l.2 _ _ (fun z => by rw [z, hd] at h0; cases h0) h0, l.2 _ _ (fun z => by rw [z, hd] at h1; cases h1) h1, l.2 _ _ (fun z => by rw [z, hd] at h2; cases h2) h2, l.2 _ _ (fun z => ?_) h3⟩, nd, n1, rk⟩
  rw [z, hd] at h3
  have e : mpT eI T = mpT eS (plT ns) := HO.dK.inj (Option.some.inj h3)
  cases T with
  | nil => exact ne rfl
  | cons x T =>
    cases q : plT ns with
    | nil => rw [q] at e; cases e
    | cons y S =>
      rw [q] at e
      have e2 := (Prod.mk.inj (List.cons.inj e).1).1
      cases e2
theorem LkT.same {d : Addr} {od : Obj} {u : HO} {H F G : Hp} (h : LkT d od u H F) (s : Same F G) : LkT d od u H G := ⟨s _ _ h.1, fun a o ne e => s _ _ (h.2 a o ne e)⟩
def spTold (K : PySem.W.Frag) (C : Addr) : Sp := fun vs H Q _ => ∃ (f d : Addr) (T : KI) (ns : List Str) (r : Nat), vs = [.ref f, .ref d] ∧ FieldsAt C H f ns r ∧ TabAt H d T ∧ T.length < sizeLine ∧ (∀ x ∈ T, x.2 ≠ 0 ∧ ∃ g, Dom ns r g ∧ x.1 = keyI ns r g) ∧ r ^ ns.length < 2 ^ 8999 ∧
  ∀ (a : Addr) (p : Poly) (G : Hp), Same H G → ToldP ns r T p → KeyV K G (polyK p) (.ref a) → Q (.ref a) G
structure MonoTxt (P : Program) (w : World) (K : PySem.W.Frag) (mg : Str → Option Value) (base : Heap) (C fM : Addr) (dM : FuncData) : Prop where
  ok : FnOk P w K mg base CX0 1 fM dM ["self", "key"] (spMono K C)
  b : Binds K dM ["self", "key"] []
  m : Meth K C "monomial" fM
section
variable {P : Program} {w : World} {K : PySem.W.Frag} {mg : Str → Option Value} {base : Heap} {C : Addr}
theorem scTold : FnScope ["self", "table", "key", "many"] ["self", "table"] (defScope sTold) := ⟨rfl, rfl, rfl, by decide +kernel, rfl, by decide +kernel, by decide +kernel⟩
theorem ok_told {f fM : Addr} {fd dM : FuncData} (F : Fun K "told" "Fields.told" sTold f fd) (T : FldTxt K mg C) (U : MonoTxt P w K mg base C fM dM) : FnOk P w K mg base CX0 2 f fd ["self", "table"] (spTold K C) := by
  refine F.ok scTold (fun vs H Q E h => ?_) (fun cdv A outer s H vs Q E hr h => ?_)
  · obtain ⟨f, d, T, ns, r, rfl, _⟩ := h
    rfl
  · obtain ⟨f0, d, T0, ns, r, rfl, fa, hd, hl, ks, rb, go⟩ := h
    refine ⟨_, (pss_one (ps_lock (ps_ret (pe_callTy call_tuple_of (by rfl) T.tuple (by decide +kernel) (pa_cons (pe_callB (show CallR _ (.builtin "sorted") (rSortK K termK) from cr_sortK hr.units al_term (fun t => ⟨_, _, rfl⟩) (fun t => Nat.le_trans (dep_term t) (by decide))) (by rfl) T.sorted (by decide +kernel) (pa_cons (pe_lc (own := [("key", 2), ("many", 3)]) (g := (gTup K 2 (gCons (gName 2) (gCons (gName 3) gNil)))) (tt := tYes) (te := (tTup (tCons (tMeth C "monomial" (spMono K C) [] E0 (tVar 0) (tCons (tVar 2) tNil)) (tCons (tVar 3) tNil)))) rfl scTold.nd (pi_items (pv 1)) (blkOk_by (own := [("key", 2), ("many", 3)]) (N := ["self", "table", "key", "many"]) (sc := defScope sTold) (by decide +kernel)) (fun _ _ _ _ _ => (pg_tup rfl (pgs_cons (pg_name (i := 2) scTold.nd rfl (Or.inl rfl)) (pgs_cons (pg_name (i := 3) scTold.nd rfl (Or.inl rfl)) pgs_nil)))) (fun _ _ _ _ _ => pts_nil) (fun _ _ _ _ _ => (pe_tup (pa_cons (pe_meth (pv 0) T.cl U.m U.ok hr U.b .nil pass0 (pa_cons (pv 2) pa_nil)) (pa_cons (pv 3) pa_nil))))) pa_nil)) pa_nil))))), ?_⟩
    refine ⟨d, _, hd.1, True.intro, fun od => ?_⟩
    refine ⟨_, rfl, d, od, _, rfl, upd_same, fun D nD => ?_⟩
    have Dd : D ≠ d := fun z => by rw [z, upd_same] at nD; cases nD
    rw [upd_ne Dd] at nD
    refine blk_n (o := fun D => .lst []) (n := (mpT eI T0).length) (fun (i : Nat) (G : Hp) => LkT d od (.dK (mpT eI T0)) H G ∧ ∃ (P : Poly) (xs : List V), G D = some (.lst xs) ∧ KeyVs K G (P.map termK) xs ∧ TermsOf ns r (T0.take i) P)
      ⟨LkT.start.set Dd nD, [], [], upd_same, .nil, rfl, fun t h => nomatch h⟩ (fun i G hi ⟨l, _⟩ => ⟨l.1, hi⟩) (fun G ⟨l, _⟩ => ⟨l.1, Nat.le_refl _⟩) (fun i G x G' hi ⟨l, P1, xs, h1, kx, to⟩ hy => ?_) (fun G ⟨l, P1, xs, h1, kx, to⟩ => ?_)
    · obtain ⟨t, k, v, hkv, rfl, nt, rfl⟩ := hy
      obtain ⟨y, hy, rfl, rfl⟩ := at_mpT hkv
      have l2 := l.new (o := .tup [kV (eI y.1), .int y.2]) nt
      have s1 : Same G (upd G t (.tup [kV (eI y.1), .int y.2])) := same_new nt
      have ht : upd G t (.tup [kV (eI y.1), .int y.2]) t = some (.tup [kV (eI y.1), .int y.2]) := upd_same
      have h2 := s1 _ _ h1
      have k2 := KeyVs.up (Tups.ext s1) _ _ kx
      generalize upd G t (.tup [kV (eI y.1), .int y.2]) = G2 at l2 ht h2 k2 ⊢
      have hm := List.mem_of_getElem? hy
      obtain ⟨nz, g, hg, ek⟩ := ks y hm
      have ne : T0 ≠ [] := fun z => by rw [z] at hm; cases hm
      have fa2 := fa.lk hd.1 ne l2
      have fa3 := fa2
      obtain ⟨⟨dx, l1, l3, l4, o0, o1, o2, o3⟩, fnd, fn1, frk⟩ := fa3
      refine ⟨t, _, rfl, SqT.of ht, rfl, _, _, rfl, _, _, rfl, rfl, rfl, ?_⟩
      refine ⟨_, rfl, f0, dx, _, rfl, o0, fF_monomial, _, rfl, f0, zOf ns g, r, ?_, by rw [zOf_names]; exact fa2, fun z hz => ?_, ?_, fun a m G3 s3 mo km => ?_⟩
      · rw [zOf_num]
        show [V.ref f0, kV (eI y.1)] = _
        rw [ek]
        rfl
      · obtain ⟨x, hx, rfl⟩ := List.mem_map.mp hz
        exact hg.2 x hx
      · unfold zOf
        rw [List.length_map]
        exact rb
      · have em := mo.ex fnd hg.1
        have h3 := s3 _ _ h2
        have k3 := KeyVs.up (Tups.ext s3) _ _ k2
        refine ⟨_, rfl, by show 2 ≤ sizeLine; decide, fun q nq => ?_⟩
        have s4 : Same G3 (upd G3 q (.tup [.ref a, .int y.2])) := same_new nq
        have hq : upd G3 q (.tup [.ref a, .int y.2]) q = some (.tup [.ref a, .int y.2]) := upd_same
        have h4 := s4 _ _ h3
        have k4 := KeyVs.up (Tups.ext s4) _ _ k3
        have km4 := KeyV.up (Tups.ext s4) _ _ km
        have l4 := (l2.same s3).same s4
        generalize upd G3 q (.tup [.ref a, .int y.2]) = G4 at hq h4 k4 km4 l4 ⊢
        have lx : xs.length = i := by rw [keyVs_len k4, List.length_map, to.len, List.length_take]; have := (List.getElem?_eq_some_iff.mp hy).1; omega
        refine ⟨xs, h4, by rw [len_mpT] at hi; omega, l4.set Dd nD, P1 ++ [(m, y.2)], xs ++ [.ref q], upd_same, ?_, ?_, ?_⟩
        · rw [List.map_append]
          have kt : KeyVs K G4 (P1.map termK ++ [(m, y.2)].map termK) (xs ++ [.ref q]) := keyVs_app k4 (.cons (kv_term.mpr ⟨q, .ref a, rfl, hq, km4⟩) .nil)
          exact KeyVs.up (K := K) ⟨fun b ys e => (upd_ne (fun z => by rw [z, h4] at e; cases e)).trans e, fun b o ys e => (upd_ne (fun z => by rw [z, h4] at e; cases e)).trans e⟩ _ _ kt
        · rw [take_snoc hy]
          unfold liftP
          rw [List.map_append, List.map_append, to.eq]
          unfold liftP
          congr 1
          show [y] = [(keyI ns r (exM m), y.2)]
          rw [em, ← ek]
        · intro t2 ht2
          rcases List.mem_append.mp ht2 with h | h
          · exact to.ok t2 h
          · rw [List.mem_singleton.mp h]
            exact ⟨mo.ok, by show Dom ns r (exM m); rw [em]; exact hg⟩
    · rw [len_mpT, List.take_length] at to
      refine ⟨P1, D, xs, rfl, SqL.of h1, kx, fun zs q kz nq => ?_⟩
      have s4 : Same G (upd G q (.lst zs)) := same_new nq
      have hq : upd G q (.lst zs) q = some (.lst zs) := upd_same
      have kz2 := KeyVs.up (Tups.ext s4) _ _ kz
      have l4 := l.same s4
      generalize upd G q (.lst zs) = G2 at s4 hq kz2 l4 ⊢
      refine ⟨q, zs, rfl, .inl ⟨SqL.of hq, fun a na => ?_⟩⟩
      have s5 : Same G2 (upd G2 a (.tup zs)) := same_new na
      have l5 := l4.same s5
      have ha : upd G2 a (.tup zs) a = some (.tup zs) := upd_same
      have kz3 := KeyVs.up (Tups.ext s5) _ _ kz2
      generalize upd G2 a (.tup zs) = G3 at l5 ha kz3 ⊢
      have tk : Tups K G3 (upd G3 d (.dK (mpT eI T0))) := ⟨fun b ys e => (upd_ne (fun z => by rw [z, l5.1] at e; cases e)).trans e, fun b o ys e => (upd_ne (fun z => by rw [z, l5.1] at e; cases e)).trans e⟩
      exact ⟨l5.1, go a _ _ (l5.done hd.1) (to.told hd.2 fun x hx => (ks x hx).1) (kv_poly.mpr ⟨a, zs, rfl, .inl (tk.t _ _ ha), KeyVs.up tk _ _ kz3⟩)⟩
end
end K2P

set_option Elab.async false
set_option linter.all false
set_option maxRecDepth 100000
set_option maxHeartbeats 4000000
/-! figurehold.tables over dicts of nested keys: number, scaled, plus, minus. -/
namespace K1P
open PySem L2 K1D
def top (i : Nat) : Stmt := PySem.Challenge.pw_figurehold_k05_numbers_by_fractions.main.body.getD i (.Pass ⟨0, 0, 0, 0⟩)
abbrev sPlus : Stmt := top 11
theorem ifY {b : Bool} {A B : Prop} (e : b = true) (h : A) : if b = true then A else B := by rw [if_pos e]; exact h
theorem ifN {b : Bool} {A B : Prop} (e : b = false) (h : B) : if b = true then A else B := by rw [e]; exact h
theorem hu8 {A : Around} {k : Nat} (hr : Room k A) : A.units + 8 < cLine := by have := hr.un; omega
theorem hu9 {A : Around} {k : Nat} (hr : Room k A) : A.units + 9 < cLine := by have := hr.un; omega
theorem putI_new {m : List NI} {k : NestedKey} (c : Int) (h : k ∉ keysI m) : putI m k c = m ++ [(k, c)] := by
  unfold putI
  rw [valI_none.mpr h]
  rfl
/-- one pair more -/
theorem put_take {m : List NI} (nd : (keysI m).Nodup) (f : NI → Int) {i : Nat} {y : NI} (h : m[i]? = some y) : putI ((m.take i).map fun x => (x.1, f x)) y.1 (f y) = (m.take (i + 1)).map fun x => (x.1, f x) := by
  have lt : i < m.length := (List.getElem?_eq_some_iff.mp h).1
  have hy : m[i] = y := (List.getElem?_eq_some_iff.mp h).2
  rw [putI_new, List.take_succ_eq_append_getElem lt, List.map_append, hy]
  · rfl
  · intro q
    unfold keysI at q nd
    rw [List.map_map] at q
    obtain ⟨x, hx, ex⟩ := List.mem_map.mp q
    obtain ⟨j, hj⟩ := List.mem_iff_getElem?.mp hx
    rw [List.getElem?_take] at hj
    split at hj
    · rename_i lj
      have e1 : (m.map (·.1))[j]? = some y.1 := by rw [List.getElem?_map, hj]; exact congrArg some ex
      have e2 : (m.map (·.1))[i]? = some y.1 := by rw [List.getElem?_map, h]; rfl
      have := (List.getElem?_inj (List.getElem?_eq_some_iff.mp e1).1 nd).mp (e1.trans e2.symm)
      omega
    · cases hj
/-- d is locked, all else stands -/
def Lk (d : Addr) (od : Obj) (u : HO) (H F : Hp) : Prop := F d = some (.frz od u) ∧ ∀ a o, a ≠ d → H a = some o → F a = some o
theorem Lk.tups {K : PySem.W.Frag} {w : World} {d : Addr} {od : Obj} {kvs : List NE} {H F : Hp} (h : Lk d od (dN w d kvs) H F) (hd : H d = some (dN w d kvs)) : Tups K H F := ⟨fun a xs q => h.2 _ _ (fun z => not_tup_dN hd xs (.inl (by rw [← z]; exact q))) q, fun a o xs q => h.2 _ _ (fun z => not_tup_dN hd xs (.inr ⟨o, by rw [← z]; exact q⟩)) q⟩
theorem Lk.new {d q : Addr} {od : Obj} {u o : HO} {H F : Hp} (h : Lk d od u H F) (n : F q = none) : Lk d od u H (upd F q o) :=
  ⟨(upd_ne (ne_of_none h.1 n)).trans h.1, fun a x ne e => (upd_ne (ne_of_none (h.2 a x ne e) n)).trans (h.2 a x ne e)⟩
theorem Lk.set {d q : Addr} {od : Obj} {u o : HO} {H F : Hp} (h : Lk d od u H F) (nq : q ≠ d) (n : H q = none) : Lk d od u H (upd F q o) :=
  ⟨(upd_ne (Ne.symm nq)).trans h.1, fun a x ne e => (upd_ne (ne_of_none e n)).trans (h.2 a x ne e)⟩
theorem Lk.start {d : Addr} {od : Obj} {u : HO} {H : Hp} : Lk d od u H (upd H d (.frz od u)) := ⟨upd_same, fun a o ne e => (upd_ne ne).trans e⟩
theorem Lk.done {d : Addr} {od : Obj} {u : HO} {H F : Hp} (h : Lk d od u H F) (hd : H d = some u) : Same H (upd F d u) := fun a o e => by
  by_cases z : a = d
  · subst z
    rw [hd] at e
    rw [upd_same]
    exact e
  · rw [upd_ne z]
    exact h.2 a o z e
/-- number(k) -/
def numK (k : Int) : List (Key × V) := if k = 0 then [] else [(.inl 0, .int k)]
def spNumber : Sp := fun vs H Q _ => ∃ k : Int, vs = [.int k] ∧ ∀ (d : Addr) (H' : Hp), Same H H' → H d = none → H' d = some (.dK (numK k)) → Q (.ref d) H'
section
variable {P : Program} {w : World} {K : PySem.W.Frag} {mg : Str → Option Value} {base : Heap}
/-- scaled(p, k), k not 0 and small -/
def spScaled (K : PySem.W.Frag) (w : World) : Sp := fun vs H Q _ => ∃ (d : Addr) (k : Int) (m : List NI), vs = [.ref d, .int k] ∧ k ≠ 0 ∧ -(2 ^ 64) < k ∧ k < 2 ^ 64 ∧ DictI K w H d m ∧ m.length < sizeLine ∧
  ∀ (d' : Addr) (H' : Hp), Same H H' → H d' = none → DictI K w H' d' (m.map fun x => (x.1, x.2 * k)) → Q (.ref d') H'
theorem keysI_map (m : List NI) (f : Int → Int) : keysI (m.map fun x => (x.1, f x.2)) = keysI m := by
  unfold keysI
  rw [List.map_map]
  rfl
end
end K1P

set_option Elab.async false
set_option linter.all false
set_option maxRecDepth 100000
set_option maxHeartbeats 4000000
/-! figurehold.tables.plus, minus. -/
namespace K1P
open PySem L2 K1D
/-- one pair more in the sum -/
def plusOne (m : List NI) (x : NI) : List NI := if (valI m x.1).getD 0 + x.2 ≠ 0 then putI m x.1 ((valI m x.1).getD 0 + x.2) else dropI m x.1
def plusI (m n : List NI) : List NI := n.foldl plusOne m
theorem nodup_plusOne {m : List NI} (nd : (keysI m).Nodup) (x : NI) : (keysI (plusOne m x)).Nodup := by
  unfold plusOne
  split
  · exact nodup_put nd _ _
  · exact nodup_drop nd _
theorem nodup_plusI {n : List NI} : ∀ {m : List NI}, (keysI m).Nodup → (keysI (plusI m n)).Nodup := by
  induction n with
  | nil => exact fun h => h
  | cons x n ih => exact fun h => ih (nodup_plusOne h x)
theorem len_plusOne (m : List NI) (x : NI) : (plusOne m x).length ≤ m.length + 1 := by
  unfold plusOne
  split
  · exact len_put _ _ _
  · exact Nat.le_succ_of_le (len_drop _ _)
theorem len_plusI (n : List NI) : ∀ m : List NI, (plusI m n).length ≤ m.length + n.length := by
  induction n with
  | nil => exact fun m => Nat.le_refl _
  | cons x n ih =>
    intro m
    have h1 := ih (plusOne m x)
    have h2 := len_plusOne m x
    show (plusI (plusOne m x) n).length ≤ _
    rw [List.length_cons]
    omega
theorem plusI_take {n : List NI} {i : Nat} {x : NI} (h : n[i]? = some x) (m : List NI) : plusI m (n.take (i + 1)) = plusOne (plusI m (n.take i)) x := by
  have lt : i < n.length := (List.getElem?_eq_some_iff.mp h).1
  have e : n[i] = x := (List.getElem?_eq_some_iff.mp h).2
  unfold plusI
  rw [List.take_succ_eq_append_getElem lt, List.foldl_append, e]
  rfl
/-- plus(p, q), no value of q's 0 -/
def spPlus (K : PySem.W.Frag) (w : World) : Sp := fun vs H Q _ => ∃ (d e : Addr) (m n : List NI), vs = [.ref d, .ref e] ∧ DictI K w H d m ∧ DictI K w H e n ∧ m.length + n.length < sizeLine ∧ (∀ x ∈ n, x.2 ≠ 0) ∧
  ∀ (d' : Addr) (H' : Hp), Same H H' → H d' = none → DictI K w H' d' (plusI m n) → Q (.ref d') H'
section
variable {P : Program} {w : World} {K : PySem.W.Frag} {mg : Str → Option Value} {base : Heap}
theorem scPlus : FnScope ["p", "q", "key", "out", "many", "both"] ["p", "q"] (defScope sPlus) := ⟨rfl, rfl, rfl, by decide +kernel, rfl, by decide +kernel, by decide +kernel⟩
theorem not_tup_frz {H : Hp} {w : World} {d : Addr} {od : Obj} {kvs : List NE} (h : H d = some (.frz od (dN w d kvs))) : ∀ xs, ¬ Rd H d (.tup xs) := fun xs q => by
  rcases q with q | ⟨o, q⟩
  · rw [h] at q; cases q
  · rw [h] at q
    have z : dN w d kvs = .tup xs := by
      injection q with q
      injection q
    cases z
theorem back_tups {H : Hp} {w : World} {d : Addr} {od : Obj} {kvs : List NE} (h : H d = some (.frz od (dN w d kvs))) : Tups K H (upd H d (dN w d kvs)) := Tups.put (not_tup_frz h)
theorem ok_plus {f : Addr} {fd : FuncData} (F : Fun K "plus" "plus" sPlus f fd) : FnOk P w K mg base CX0 1 f fd ["p", "q"] (spPlus K w) := by
  refine F.ok scPlus (fun vs H Q E h => ?_) (fun cdv A outer s H vs Q E hr h => ?_)
  · obtain ⟨d, e, m, n, rfl, _⟩ := h
    rfl
  · obtain ⟨d, e, m, n, rfl, ⟨kvs, hd, ks, im, nd⟩, ⟨lvs, he, ls, il, ne⟩, hl, nz, go⟩ := h
    refine ⟨_, pss_cons (ps_lock (ps_setNdc (i := 3) (own := [("key", 2)]) (g := gName 2) (tv := tNGet K w (tVar 0) (tVar 2)) (hu8 hr) rfl scPlus.nd rfl rfl rfl (pi_nkeys (pv 0)) (blkOk_by (own := [("key", 2)]) (N := ["p", "q", "key", "out", "many", "both"]) (sc := defScope sPlus) (by decide +kernel))
        (fun _ _ _ _ _ => pg_name (i := 2) scPlus.nd rfl (Or.inl rfl)) (fun _ _ _ _ _ => pts_nil) (fun _ _ _ _ _ => pv 2) (fun _ _ _ _ _ => pe_nget (hu9 hr) (pv 0) (pv 2) (fun _ _ => rfl))))
      (pss_cons (ps_lock (ps_for PassesOwn.never rfl (pi_nitems (pv 1)) (pg_tup rfl (pgs_cons (pg_name (i := 2) scPlus.nd rfl (Or.inl rfl)) (pgs_cons (pg_name (i := 4) scPlus.nd rfl (Or.inl rfl)) pgs_nil)))
        (pss_cons (ps_set (i := 5) scPlus.nd rfl (Or.inl rfl) (pe_op op_add (pe_nget2 (hu9 hr) (pv 3) (pv 2) pe_int ⟨rfl, rfl, rfl, rfl⟩) (pv 4)))
          (pss_one (ps_if (pt_cmpR op_ne (pv 5) pe_int (nomark _)) (pss_one (ps_nput (hu9 hr) (pv 3) (pv 2) (pv 5) rfl)) (pss_one (ps_ndel (hu9 hr) (pv 3) (pv 2))))))))
      (pss_one (ps_ret (pv 3)))), ?_⟩
    have lk := ints_len im
    have ll := ints_len il
    refine ⟨d, _, hd, True.intro, fun od => ?_⟩
    refine ⟨_, rfl, d, od, kvs, rfl, upd_same, fun D nD => ?_⟩
    have Dd : D ≠ d := fun z => by rw [z, upd_same] at nD; cases nD
    rw [upd_ne Dd] at nD
    refine blk_n (o := fun D => dN w D []) (n := kvs.length) (fun (i : Nat) (F : Hp) => Lk d od (dN w d kvs) H F ∧ ∃ os : List NE, F D = some (dN w D os) ∧ KeysN K F os ∧ IntsN os ((m.take i).map fun x : NI => (x.1, x.2)))
      ⟨Lk.start.set Dd nD, [], upd_same, (fun x hx => by cases hx), rfl⟩ (fun i F hi ⟨l, _⟩ => ⟨l.1, hi⟩) (fun F ⟨l, _⟩ => ⟨l.1, Nat.le_refl _⟩) (fun i F x F' hi ⟨l, os, h1, h2, h3⟩ hy => ?_) (fun F ⟨l, os, h1, h2, h3⟩ => ?_)
    · obtain ⟨rfl, y, hy, rfl⟩ := hy
      obtain ⟨c, hc, hv⟩ := ints_at im hy
      obtain ⟨k3, k4⟩ := ks y (List.mem_of_getElem? hy)
      have key : KeyV K F' y.1 (.ref y.2.1) := k3.up (l.tups hd) _ _
      have hlen : os.length < sizeLine := by
        have := ints_len h3
        rw [List.length_map, List.length_take] at this
        omega
      have hval : valN kvs y.1 = some (V.int c) := by
        rw [ints_val im, (valI_mem nd).mpr (List.mem_of_getElem? hc)]
        rfl
      refine ⟨rfl, _, rfl, _, rfl, _, rfl, d, y.2.1, kvs, y.1, V.int c, rfl, rfl, .inr ⟨od, l.1⟩, ks.up (l.tups hd), key, k4, hval, os, y.1, y.2.1, rfl, h1, h2, hlen, key, k4, l.set Dd nD, _, upd_same, ?_, ?_⟩
      · exact (h2.put key k4).up (Tups.put (not_tup_dN h1))
      · have := ints_put h3 y.1 y.2.1 c
        rw [show putI ((m.take i).map fun x => (x.1, x.2)) y.1 c = (m.take (i + 1)).map fun x => (x.1, x.2) from put_take nd (fun x => x.2) hc] at this
        exact this
    · refine ⟨l.1, ?_⟩
      have em : (m.take kvs.length).map (fun x : NI => (x.1, x.2)) = m := by rw [lk, List.take_length]; exact List.map_id m
      rw [em] at h3
      have sm := l.done hd
      have h1' : upd F d (dN w d kvs) D = some (dN w D os) := (upd_ne Dd).trans h1
      have h2' := h2.up (K := K) (back_tups (K := K) l.1)
      generalize upd F d (dN w d kvs) = G at sm h1' h2' ⊢
      have eD : e ≠ D := ne_of_none he nD
      refine ⟨e, _, sm _ _ he, True.intro, fun oe => ?_⟩
      have lE : Lk e oe (dN w e lvs) H (upd G e (.frz oe (dN w e lvs))) := ⟨upd_same, fun a o ne q => (upd_ne ne).trans (sm a o q)⟩
      have gD : upd G e (.frz oe (dN w e lvs)) D = some (dN w D os) := (upd_ne (Ne.symm eD)).trans h1'
      have gK : KeysN K (upd G e (.frz oe (dN w e lvs))) os := h2'.up (Tups.put (not_tup_dN (sm _ _ he)))
      refine ⟨_, rfl, e, oe, lvs, rfl, upd_same, for_n (n := lvs.length) (fun (i : Nat) (σ : L2.St) (F : Hp) => ∃ u2 u4 u5 : Option V, σ = [some (.ref d), some (.ref e), u2, some (.ref D), u4, u5] ∧ Lk e oe (dN w e lvs) H F ∧
          ∃ os : List NE, F D = some (dN w D os) ∧ KeysN K F os ∧ IntsN os (plusI m (n.take i)))
        ⟨_, _, _, rfl, lE, os, gD, gK, h3⟩ (fun i σ F hi ⟨_, _, _, _, l, _⟩ => ⟨l.1, hi⟩) (fun σ F ⟨_, _, _, _, l, _⟩ => ⟨l.1, Nat.le_refl _⟩) (fun i σ F x F' hi ⟨u2, u4, u5, hσ, l, os, h1, h2, h3⟩ hy => ?_) (fun σ F ⟨u2, u4, u5, hσ, l, os, h1, h2, h3⟩ => ?_)⟩
      · subst hσ
        obtain ⟨T, y, hy, rfl, nT, rfl⟩ := hy
        obtain ⟨c, hc, hv⟩ := ints_at il hy
        obtain ⟨k3, k4⟩ := ls y (List.mem_of_getElem? hy)
        have l2 := l.new (o := .tup [.ref y.2.1, y.2.2]) nT
        have h1' : upd F T (.tup [.ref y.2.1, y.2.2]) D = some (dN w D os) := (upd_ne (ne_of_none h1 nT)).trans h1
        have h2' : KeysN K (upd F T (.tup [.ref y.2.1, y.2.2])) os := h2.up (Tups.put (not_tup_none nT))
        have hT : upd F T (.tup [.ref y.2.1, y.2.2]) T = some (.tup [.ref y.2.1, y.2.2]) := upd_same
        generalize upd F T (.tup [.ref y.2.1, y.2.2]) = G at l2 h1' h2' hT ⊢
        have hlen : os.length < sizeLine := by
          have q1 := ints_len h3
          have q2 := len_plusI (n.take i) m
          rw [List.length_take] at q2
          omega
        have key : KeyV K G y.1 (.ref y.2.1) := k3.up (l2.tups he) _ _
        have hval : (valN os y.1).getD (.int 0) = .int ((valI (plusI m (n.take i)) y.1).getD 0) := by
          rw [ints_val h3]
          cases valI (plusI m (n.take i)) y.1 <;> rfl
        have next := plusI_take hc m
        refine ⟨T, _, rfl, SqT.of hT, rfl, _, _, rfl, _, _, rfl, rfl, ?_⟩
        refine ⟨_, rfl, D, os, rfl, .inl h1', h2', _, rfl, y.2.1, y.1, rfl, .inl h1', h2', key, k4, _, rfl, _, _, hval, hv, ?_⟩
        refine ⟨_, rfl, rfl, _, rfl, ?_⟩
        by_cases z : (valI (plusI m (n.take i)) y.1).getD 0 + c = 0
        · refine ifN (by simp [z]) ?_
          have some' : (valN os y.1).isSome = true := by
            rw [ints_val h3, Option.isSome_map]
            cases q : valI (plusI m (n.take i)) y.1 with
            | none =>
              rw [q] at z
              have := nz (y.1, c) (List.mem_of_getElem? hc)
              exact absurd (by simpa using z) this
            | some v => rfl
          refine ⟨_, rfl, _, rfl, D, y.2.1, os, y.1, rfl, rfl, h1', h2', key, k4, some', _, _, _, rfl, l2.set (Ne.symm eD) nD, _, upd_same, (h2'.drop).up (Tups.put (not_tup_dN h1')), ?_⟩
          rw [next]
          unfold plusOne
          rw [if_neg (fun q => q z)]
          exact ints_drop y.1 h3
        · refine ifY (by simp [z]) ?_
          refine ⟨_, rfl, _, rfl, _, rfl, D, y.2.1, os, y.1, rfl, rfl, h1', h2', hlen, key, k4, _, _, _, rfl, l2.set (Ne.symm eD) nD, _, upd_same, (h2'.put key k4).up (Tups.put (not_tup_dN h1')), ?_⟩
          rw [next]
          unfold plusOne
          rw [if_pos z]
          exact ints_put h3 y.1 y.2.1 _
      · subst hσ
        refine ⟨l.1, _, rfl, go D _ (l.done he) nD ⟨os, (upd_ne (Ne.symm eD)).trans h1, h2.up (back_tups l.1), ?_, nodup_plusI nd⟩⟩
        rw [ll, List.take_length] at h3
        exact h3
/-- minus(p, q) -/
def negI (m : List NI) : List NI := m.map fun x => (x.1, x.2 * -1)
def spMinus (K : PySem.W.Frag) (w : World) : Sp := fun vs H Q _ => ∃ (d e : Addr) (m n : List NI), vs = [.ref d, .ref e] ∧ DictI K w H d m ∧ DictI K w H e n ∧ m.length + n.length < sizeLine ∧ (∀ x ∈ n, x.2 ≠ 0) ∧
  ∀ (d' : Addr) (H' : Hp), Same H H' → H d' = none → DictI K w H' d' (plusI m (negI n)) → Q (.ref d') H'
end
end K1P

set_option Elab.async false
set_option linter.all false
set_option maxRecDepth 100000
set_option maxHeartbeats 4000000
/-! figurehold.polys: _by_monomials. -/
namespace K1P
open PySem L2 K1D
abbrev sBy : Stmt := top 28
/-- a monomial: names and exponents -/
abbrev Mon := List (Str × Int)
def pairM (x : Str × Int) : NestedKey := .tup [.text x.1, .num x.2]
def monK (ms : Mon) : NestedKey := .tup (ms.map pairM)
def polyK (m : List NI) : NestedKey := .tup (m.map pairK)
def IsMon (k : NestedKey) : Prop := ∃ ms, k = monK ms
/-- at p a polynomial: pairs of a monomial and an int -/
def PolyV (K : PySem.W.Frag) (H : Hp) (p : Addr) (m : List NI) : Prop := KeyV K H (polyK m) (.ref p) ∧ (∀ x ∈ m, IsMon x.1) ∧ (keysI m).Nodup
theorem PolyV.up {K : PySem.W.Frag} {H H' : Hp} {p : Addr} {m : List NI} (h : PolyV K H p m) (t : Tups K H H') : PolyV K H' p m := ⟨h.1.up t _ _, h.2⟩
theorem same_tups {K : PySem.W.Frag} {H H' : Hp} (s : Same H H') : Tups K H H' := Tups.ext s
theorem depth_mon (ms : Mon) : (monK ms).depth ≤ 2 := by
  have h : ∀ l : Mon, NestedKey.depthAll (l.map pairM) ≤ 1 := by
    intro l
    induction l with
    | nil => exact Nat.zero_le _
    | cons x l ih =>
      show max (pairM x).depth (NestedKey.depthAll (l.map pairM)) ≤ 1
      exact Nat.max_le.mpr ⟨by simp [pairM, NestedKey.depth, NestedKey.depthAll], ih⟩
  show NestedKey.depthAll (ms.map pairM) + 1 ≤ 2
  have := h ms
  omega
theorem depth_isMon {k : NestedKey} (h : IsMon k) : k.depth ≤ 8 := by
  obtain ⟨ms, rfl⟩ := h
  exact Nat.le_trans (depth_mon ms) (by decide)
section
variable {K : PySem.W.Frag} {H : Hp}
theorem keyVs_len : ∀ {ks : List NestedKey} {vs : List V}, KeyVs K H ks vs → vs.length = ks.length
  | [], _, h => by cases h; rfl
  | k :: ks, _, h => by
    cases h with
    | cons _ h => simp [keyVs_len h]
theorem keyVs_at : ∀ {ks : List NestedKey} {vs : List V} {i : Nat} {v : V}, KeyVs K H ks vs → vs[i]? = some v → ∃ k, ks[i]? = some k ∧ KeyV K H k v
  | [], _, i, v, h, e => by cases h; simp at e
  | k :: ks, _, 0, v, h, e => by
    cases h with
    | cons h1 h2 =>
      simp only [List.getElem?_cons_zero, Option.some.injEq] at e
      subst e
      exact ⟨k, rfl, h1⟩
  | k :: ks, _, i + 1, v, h, e => by
    cases h with
    | cons h1 h2 =>
      simp only [List.getElem?_cons_succ] at e
      obtain ⟨k', e', h'⟩ := keyVs_at h2 e
      exact ⟨k', by simpa using e', h'⟩
theorem keyVs_snoc : ∀ {ks : List NestedKey} {vs : List V} {k : NestedKey} {v : V}, KeyVs K H ks vs → KeyV K H k v → KeyVs K H (ks ++ [k]) (vs ++ [v])
  | [], _, _, _, h, g => by cases h; exact .cons g .nil
  | _ :: _, _, _, _, h, g => by
    cases h with
    | cons h1 h2 => exact .cons h1 (keyVs_snoc h2 g)
theorem key_pairK {y : NI} {v : V} (h : KeyV K H (pairK y) v) : ∃ (t : Addr) (u : V), v = .ref t ∧ H t = some (.tup [u, .int y.2]) ∧ KeyV K H y.1 u := by
  cases h with
  | @tup a xs ks h1 h2 =>
    cases h2 with
    | cons h2 h3 =>
      cases h3 with
      | cons h3 h4 =>
        cases h4
        cases h3
        exact ⟨a, _, rfl, h1, h2⟩
  | frz h1 h3 h2 => exact absurd (h3 (.num y.2) (by simp)) fun ⟨l, e⟩ => nomatch e
theorem key_pairM {y : Str × Int} {v : V} (h : KeyV K H (pairM y) v) : ∃ t : Addr, v = .ref t ∧ H t = some (.tup [.str y.1, .int y.2]) := by
  cases h with
  | @tup a xs ks h1 h2 =>
    cases h2 with
    | cons h2 h3 =>
      cases h3 with
      | cons h3 h4 =>
        cases h4
        cases h3
        cases h2
        exact ⟨a, rfl, h1⟩
  | frz h1 h3 h2 => exact absurd (h3 (.num y.2) (by simp)) fun ⟨l, e⟩ => nomatch e
theorem key_tup {ks : List NestedKey} {v : V} (h : KeyV K H (.tup ks) v) : ∃ (t : Addr) (xs : List V), v = .ref t ∧ Rd H t (.tup xs) ∧ KeyVs K H ks xs := by
  cases h with
  | @tup a xs ks h1 h2 => exact ⟨a, xs, rfl, .inl h1, h2⟩
  | @frz a o xs ks h1 h3 h2 => exact ⟨a, xs, rfl, .inr ⟨o, h1⟩, h2⟩
theorem mon_tup {k : NestedKey} {v : V} (hm : IsMon k) (h : KeyV K H k v) : ∃ t : Addr, v = .ref t := by
  obtain ⟨ms, rfl⟩ := hm
  obtain ⟨t, _, e, _⟩ := key_tup h
  exact ⟨t, e⟩
end
/-- the block's own scope -/
def dcScope : List Stmt → Scope
  | [.Return (some (.DictComp _ _ _ s _)) _] => s
  | _ => defScope sBy
/-- _by_monomials(p) -/
def spBy (K : PySem.W.Frag) (w : World) : Sp := fun vs H Q _ => ∃ (p : Addr) (m : List NI), vs = [.ref p] ∧ PolyV K H p m ∧ m.length < sizeLine ∧ (∀ x ∈ m, ∀ ms, x.1 = monK ms → ms.length < sizeLine) ∧
  ∀ (d : Addr) (H' : Hp), Same H H' → H d = none → DictI K w H' d m → Q (.ref d) H'
section
variable {P : Program} {w : World} {K : PySem.W.Frag} {mg : Str → Option Value} {base : Heap}
theorem scBy : FnScope ["p", "monomial", "many", "name", "exponent"] ["p"] (defScope sBy) := ⟨rfl, rfl, rfl, by decide +kernel, rfl, by decide +kernel, by decide +kernel⟩
theorem ok_by {f : Addr} {fd : FuncData} (F : Fun K "_by_monomials" "_by_monomials" sBy f fd) (tup : mg "tuple" = none) : FnOk P w K mg base CX0 1 f fd ["p"] (spBy K w) := by
  refine F.ok scBy (fun vs H Q E h => ?_) (fun cdv A outer s H vs Q E hr h => ?_)
  · obtain ⟨p, m, rfl, _⟩ := h
    rfl
  · obtain ⟨p, m, rfl, ⟨hp, mon, nd⟩, hl, hlm, go⟩ := h
    refine ⟨_, pss_one (ps_ret (pe_ndc (own := [("monomial", 1), ("many", 2)]) (g := gTup K 2 (gCons (gName 1) (gCons (gName 2) gNil)))
        (tk := tThen (tLc (iTup K (tVar 1)) (gTup K 2 (gCons (gName 3) (gCons (gName 4) gNil))) tYes (tTup (tCons (tVar 3) (tCons (tVar 4) tNil))) [3, 4]) (kTup K))
        (hu8 hr) rfl scBy.nd (pi_tup (pv 0)) (blkOk_by (own := [("monomial", 1), ("many", 2)]) (N := ["p", "monomial", "many", "name", "exponent"]) (sc := defScope sBy) (by decide +kernel))
        (fun _ _ _ _ _ => pg_tup rfl (pgs_cons (pg_name (i := 1) scBy.nd rfl (Or.inl rfl)) (pgs_cons (pg_name (i := 2) scBy.nd rfl (Or.inl rfl)) pgs_nil))) (fun _ _ _ _ _ => pts_nil)
        (fun _ _ _ _ _ => pe_tupleOf (by rfl) tup (pe_lc (own := [("name", 3), ("exponent", 4)]) (g := gTup K 2 (gCons (gName 3) (gCons (gName 4) gNil))) rfl scBy.nd (pi_tup (pv 1)) (blkOk_by (own := [("name", 3), ("exponent", 4)]) (N := ["p", "monomial", "many", "name", "exponent"]) (sc := dcScope (defBody sBy)) (by decide +kernel))
          (fun _ _ _ _ _ => pg_tup rfl (pgs_cons (pg_name (i := 3) scBy.nd rfl (Or.inl rfl)) (pgs_cons (pg_name (i := 4) scBy.nd rfl (Or.inl rfl)) pgs_nil))) (fun _ _ _ _ _ => pts_nil)
          (fun _ _ _ _ _ => pe_tup (pa_cons (pv 3) (pa_cons (pv 4) pa_nil)))))
        (fun _ _ _ _ _ => pv 2))), ?_⟩
    obtain ⟨p', xs, ep, hxs, kxs⟩ := key_tup hp
    obtain rfl : p = p' := V.ref.inj ep
    have lx : xs.length = m.length := by rw [keyVs_len kxs, List.length_map]
    refine ⟨_, rfl, p, rfl, ⟨xs, .inl hxs⟩, fun D nD => ?_⟩
    refine blk_n (o := fun D => dN w D []) (n := m.length) (fun (i : Nat) (F : Hp) => Same H F ∧ ∃ os : List NE, F D = some (dN w D os) ∧ KeysN K F os ∧ IntsN os ((m.take i).map fun x : NI => (x.1, x.2)))
      ⟨fun a o q => (upd_ne (ne_of_none q nD)).trans q, [], upd_same, (fun x hx => by cases hx), rfl⟩ (fun i F hi ⟨sm, _⟩ => ⟨xs, xs[i]'(by omega), (Or.inl (rds sm hxs)), by simp⟩) (fun F ⟨sm, _⟩ => ⟨xs, (Or.inl (rds sm hxs)), by omega⟩) (fun i F x F' hi ⟨sm, os, h1, h2, h3⟩ hy => ?_) (fun F ⟨sm, os, h1, h2, h3⟩ => ?_)
    · obtain ⟨rfl, hx⟩ := hy
      have hx := hx xs ((Or.inl (rds sm hxs)))
      obtain ⟨k, hk, kv⟩ := keyVs_at kxs hx
      rw [List.getElem?_map] at hk
      obtain ⟨y, hy, rfl⟩ := Option.map_eq_some_iff.mp hk
      have ymem := List.mem_of_getElem? hy
      obtain ⟨t, u, rfl, ht, ku⟩ := key_pairK kv
      obtain ⟨ms, ems⟩ := mon y ymem
      have lms := hlm y ymem ms ems
      rw [ems] at ku
      obtain ⟨mo, ws, rfl, hws, kws⟩ := key_tup ku
      have lw : ws.length = ms.length := by rw [keyVs_len kws, List.length_map]
      refine ⟨t, _, rfl, SqT.of (sm _ _ ht), rfl, _, _, rfl, _, _, rfl, rfl, rfl, ?_⟩
      refine ⟨_, rfl, mo, rfl, ⟨ws, (Or.inl (rds sm hws))⟩, fun L nL => ?_⟩
      refine lc_tup (xs := ws) (fun (j : Nat) (G : Hp) => Same F' G ∧ ∃ zs : List V, G L = some (.lst zs) ∧ KeyVs K G ((ms.take j).map pairM) zs) ⟨fun a o q => (upd_ne (ne_of_none q nL)).trans q, [], upd_same, .nil⟩
        (fun j G _ ⟨sg, _⟩ => (Or.inl (rds sg (rds sm hws)))) (fun j v G hv ⟨sg, zs, g1, g2⟩ => ?_) (fun G ⟨sg, zs, g1, g2⟩ => ?_)
      · obtain ⟨k, hk, kv⟩ := keyVs_at kws hv
        rw [List.getElem?_map] at hk
        obtain ⟨z, hz, rfl⟩ := Option.map_eq_some_iff.mp hk
        obtain ⟨tz, rfl, htz⟩ := key_pairM kv
        refine ⟨tz, _, rfl, SqT.of (sg _ _ (sm _ _ htz)), rfl, _, _, rfl, _, _, rfl, rfl, rfl, ?_⟩
        refine ⟨_, rfl, _, rfl, by show 2 ≤ sizeLine; decide, fun q nq => ?_⟩
        have gL : upd G q (.tup [.str z.1, .int z.2]) L = some (.lst zs) := (upd_ne (ne_of_none g1 nq)).trans g1
        have s2 : Same G (upd G q (.tup [.str z.1, .int z.2])) := fun a o e => (upd_ne (ne_of_none e nq)).trans e
        have kq : KeyV K (upd G q (.tup [.str z.1, .int z.2])) (pairM z) (.ref q) := .tup upd_same (.cons (.str z.1) (.cons (.int z.2) .nil))
        have zl : zs.length < sizeLine := by
          have q1 := keyVs_len g2
          rw [List.length_map, List.length_take] at q1
          omega
        have g2' := KeyVs.up (same_tups s2) _ _ g2
        generalize upd G q (.tup [.str z.1, .int z.2]) = G2 at gL s2 kq g2' ⊢
        have tl : Tups K G2 (upd G2 L (.lst (zs ++ [.ref q]))) := Tups.put fun xs e => by
          rcases e with e | ⟨o, e⟩
          · rw [gL] at e; cases e
          · rw [gL] at e; cases e
        refine ⟨zs, gL, zl, fun a o e => ?_, zs ++ [.ref q], upd_same, ?_⟩
        · have ne : a ≠ L := fun z => by subst z; rw [nL] at e; cases e
          exact (upd_ne ne).trans (s2 a o (sg a o e))
        · have lt : j < ms.length := (List.getElem?_eq_some_iff.mp hz).1
          rw [List.take_succ_eq_append_getElem lt, List.map_append, (List.getElem?_eq_some_iff.mp hz).2]
          exact KeyVs.up tl _ _ (keyVs_snoc g2' kq)
      · rw [lw, List.take_length] at g2
        refine .inl ⟨L, zs, rfl, SqL.of g1, fun q nq => ?_⟩
        have kq : KeyV K (upd G q (.tup zs)) y.1 (.ref q) := by
          rw [ems]
          exact .tup upd_same (KeyVs.up (Tups.put (not_tup_none nq)) _ _ g2)
        have s2 : Same F' (upd G q (.tup zs)) := fun a o e => (upd_ne (ne_of_none (sg a o e) nq)).trans (sg a o e)
        generalize upd G q (.tup zs) = G2 at kq s2 ⊢
        have hlen : os.length < sizeLine := by
          have q1 := ints_len h3
          rw [List.length_map, List.length_take] at q1
          omega
        refine ⟨_, rfl, os, y.1, q, rfl, s2 _ _ h1, h2.up (same_tups s2), hlen, kq, depth_isMon (mon y ymem), fun a o e => ?_, _, upd_same, ?_, ?_⟩
        · have ne : a ≠ D := fun z => by subst z; rw [nD] at e; cases e
          exact (upd_ne ne).trans (s2 a o (sm a o e))
        · exact ((h2.up (same_tups s2)).put kq (depth_isMon (mon y ymem))).up (Tups.put (not_tup_dN (s2 _ _ h1)))
        · have := ints_put h3 y.1 q y.2
          rw [show putI ((m.take i).map fun x => (x.1, x.2)) y.1 y.2 = (m.take (i + 1)).map fun x => (x.1, x.2) from put_take nd (fun x => x.2) hy] at this
          exact this
    · have em : (m.take m.length).map (fun x : NI => (x.1, x.2)) = m := by rw [List.take_length]; exact List.map_id m
      rw [em] at h3
      exact go D F sm nD ⟨os, h1, h2, h3, nd⟩
end
end K1P

set_option Elab.async false
set_option linter.all false
set_option maxRecDepth 100000
set_option maxHeartbeats 4000000
/-! figurehold.polys: the limits. -/
namespace K1P
open PySem L2 K1D
abbrev sAdded : Stmt := top 22
abbrev sCheck : Stmt := top 26
abbrev sOf : Stmt := top 29
def rAbs : List V → Hp → VK → Prop := fun xs H Q => ∃ i : Int, xs = [.int i] ∧ Q (.int (if i < 0 then -i else i)) H
def tooGreat : Int := 10 ^ 200
def Fits (m : List NI) : Prop := m.length ≤ 2000 ∧ ∀ x ∈ m, (x.2.natAbs : Int) < tooGreat
structure LimTxt (K : PySem.W.Frag) (mg : Str → Option Value) : Prop where
  len : mg "len" = none
  any : mg "any" = none
  abs : mg "abs" = none
  tuple : mg "tuple" = none
  sorted : mg "sorted" = none
  most : ∃ t, mg "MOST_TERMS" = some (.int 2000 t)
  great : ∃ t, mg "TOO_GREAT" = some (.int tooGreat t)
def spCheck (K : PySem.W.Frag) (w : World) : Sp := fun vs H Q _ => ∃ (d : Addr) (m : List NI), vs = [.ref d] ∧ DictI K w H d m ∧ Fits m ∧ ∀ (H' : Hp), Same H H' → Q .non H'
section
variable {P : Program} {w : World} {K : PySem.W.Frag} {mg : Str → Option Value} {base : Heap}
theorem scCheck : FnScope ["table", "many"] ["table"] (defScope sCheck) := ⟨rfl, rfl, rfl, by decide +kernel, rfl, by decide +kernel, by decide +kernel⟩
theorem ok_check {f : Addr} {fd : FuncData} (F : Fun K "_check_limits" "_check_limits" sCheck f fd) (T : LimTxt K mg) : FnOk P w K mg base CX0 1 f fd ["table"] (spCheck K w) := by
  refine F.ok scCheck (fun vs H Q E h => ?_) (fun cdv A outer s H vs Q E hr h => ?_)
  · obtain ⟨d, m, rfl, _⟩ := h
    rfl
  · obtain ⟨d, m, rfl, ⟨kvs, hd, ks, im, nd⟩, ⟨f1, f2⟩, go⟩ := h
    obtain ⟨t1, g1⟩ := T.most
    obtain ⟨t2, g2⟩ := T.great
    refine ⟨_, pss_cons (ps_if (pt_cmpR op_gt (pe_callB call_len_dn (by rfl) T.len PySem.boot_len (pa_cons (pv 0) pa_nil)) (pe_glob (v := .int 2000) (by rfl) g1 ⟨t1, rfl⟩) (nomark _)) pss_never pss_nil)
      (pss_one (ps_lock (ps_if (pt_val (pe_callB (cr_any rfl) (by rfl) T.any (by decide +kernel) (pa_cons (pe_lc (own := [("many", 1)]) (g := gName 1) rfl scCheck.nd (pi_nvalues (pv 0))
        (blkOk_by (own := [("many", 1)]) (N := ["table", "many"]) (sc := defScope sCheck) (by decide +kernel)) (fun _ _ _ _ _ => pg_name (i := 1) scCheck.nd rfl (Or.inl rfl)) (fun _ _ _ _ _ => pts_nil)
        (te := tOp (rI0 fun i j => .bl (decide (j ≤ i))) (tCB (rAbs) (tCons (tVar 1) tNil)) (tC (.int tooGreat)))
        (fun _ _ _ _ _ => pe_cmpR op_ge (pe_callB (show CallR _ (.builtin "abs") rAbs from call_abs) (by rfl) T.abs (by decide +kernel) (pa_cons (pv 1) pa_nil)) (pe_glob (v := .int tooGreat) (by rfl) g2 ⟨t2, rfl⟩) (nomark _))) pa_nil))) pss_never pss_nil))), ?_⟩
    have lk := ints_len im
    refine ⟨_, rfl, d, kvs, rfl, .inl hd, ks, _, _, rfl, rfl, _, rfl, ifN (decide_eq_false (by omega)) ?_⟩
    refine ⟨d, _, hd, True.intro, fun od => ?_⟩
    refine ⟨_, rfl, d, od, kvs, rfl, upd_same, fun L nL => ?_⟩
    have Ld : L ≠ d := fun z => by rw [z, upd_same] at nL; cases nL
    rw [upd_ne Ld] at nL
    refine blk_n (o := fun _ => .lst []) (n := kvs.length) (fun (i : Nat) (F : Hp) => Lk d od (dN w d kvs) H F ∧ F L = some (.lst (List.replicate i (V.bl false))))
      ⟨Lk.start.set Ld nL, upd_same⟩ (fun i F hi ⟨l, _⟩ => ⟨l.1, hi⟩) (fun F ⟨l, _⟩ => ⟨l.1, Nat.le_refl _⟩) (fun i F x F' hi ⟨l, h1⟩ hy => ?_) (fun F ⟨l, h1⟩ => ?_)
    · obtain ⟨rfl, e, he, rfl⟩ := hy
      obtain ⟨c, hc, hv⟩ := ints_at im he
      have lt := f2 _ (List.mem_of_getElem? hc)
      have no : decide (tooGreat ≤ (if c < 0 then -c else c)) = false := by
        refine decide_eq_false ?_
        have lt' : ((c.natAbs : Nat) : Int) < tooGreat := lt
        split <;> omega
      have ll : (List.replicate i (V.bl false)).length < sizeLine := by
        rw [List.length_replicate, sizeLine_eq]
        omega
      refine ⟨rfl, _, rfl, c, by rw [hv], _, _, rfl, rfl, _, h1, ll, l.set Ld nL, ?_⟩
      rw [upd_same, List.replicate_succ']
      show some (HO.lst (_ ++ [V.bl (decide (tooGreat ≤ (if c < 0 then -c else c)))])) = _
      rw [no]
    · refine ⟨L, List.replicate kvs.length false, rfl, SqL.of (by rw [List.map_replicate]; exact h1), ?_⟩
      have none' : (List.replicate kvs.length false).any id = false := by
        rw [List.any_eq_false]
        intro b hb
        rw [List.eq_of_mem_replicate hb]
        simp
      rw [none']
      exact ⟨_, rfl, ifN rfl ⟨l.1, go _ (l.done hd)⟩⟩
/-- the pairs of a dict, rising -/
def riseI (m : List NI) : List NI := m.mergeSort (PySem.W.dataLe false fun x => (pairK x).data)
theorem mon_alike : ∀ a b : Mon, PySem.W.alike (monK a).data (monK b).data = true := by
  have h : ∀ a b : Mon, PySem.W.alikeAll (NestedKey.datas (a.map pairM)) (NestedKey.datas (b.map pairM)) = true := by
    intro a
    induction a with
    | nil =>
      intro b
      show PySem.W.alikeAll [] _ = true
      simp only [PySem.W.alikeAll]
    | cons x a ih =>
      intro b
      cases b with
      | nil =>
        show PySem.W.alikeAll (_ :: _) [] = true
        simp only [PySem.W.alikeAll]
      | cons y b =>
        show PySem.W.alikeAll ((pairM x).data :: NestedKey.datas (a.map pairM)) ((pairM y).data :: NestedKey.datas (b.map pairM)) = true
        rw [PySem.W.alikeAll, ih b, Bool.and_true]
        show PySem.W.alike (.tuple [.str x.1, .int x.2]) (.tuple [.str y.1, .int y.2]) = true
        simp only [PySem.W.alike, PySem.W.alikeAll, Bool.and_self]
  intro a b
  show PySem.W.alike (.tuple (NestedKey.datas (a.map pairM))) (.tuple (NestedKey.datas (b.map pairM))) = true
  rw [PySem.W.alike]
  exact h a b
def MonsI (m : List NI) : Prop := ∀ x ∈ m, IsMon x.1
theorem MonsI.alike {m : List NI} (h : MonsI m) : ∀ x ∈ m, ∀ y ∈ m, PySem.W.alike x.1.data y.1.data = true := fun x hx y hy => by
  obtain ⟨a, ea⟩ := h x hx
  obtain ⟨b, eb⟩ := h y hy
  rw [ea, eb]
  exact mon_alike a b
theorem rise_perm (m : List NI) : (riseI m).Perm m := List.mergeSort_perm _ _
/-- _of_monomials(table) -/
def spOf (K : PySem.W.Frag) (w : World) : Sp := fun vs H Q _ => ∃ (d : Addr) (m : List NI), vs = [.ref d] ∧ DictI K w H d m ∧ MonsI m ∧ Fits m ∧ ∀ (p : Addr) (H' : Hp), Same H H' → PolyV K H' p (riseI m) → Q (.ref p) H'
theorem scOf : FnScope ["table"] ["table"] (defScope sOf) := ⟨rfl, rfl, rfl, by decide +kernel, rfl, by decide +kernel, by decide +kernel⟩
theorem ok_of {f fC : Addr} {fd fdC : FuncData} (F : Fun K "_of_monomials" "_of_monomials" sOf f fd) (T : LimTxt K mg) (GC : FnOk P w K mg base CX0 1 fC fdC ["table"] (spCheck K w)) (bC : Binds K fdC ["table"] []) (gC : mg "_check_limits" = some (.ref fC)) (kC : PySem.W.keepIn K (.ref fC) = true) :
    FnOk P w K mg base CX0 2 f fd ["table"] (spOf K w) := by
  refine F.ok scOf (fun vs H Q E h => ?_) (fun cdv A outer s H vs Q E hr h => ?_)
  · obtain ⟨d, m, rfl, _⟩ := h
    rfl
  · obtain ⟨d, m, rfl, hd, mo, fi, go⟩ := h
    refine ⟨_, pss_cons (ps_expr (pe_call GC hr rfl gC kC bC .nil pass0 (pa_cons (pv 0) pa_nil)))
      (pss_one (ps_ret (pe_tupleOf (by rfl) T.tuple (pe_callB (cr_sortN rfl hr.units) (by rfl) T.sorted (by decide +kernel) (pa_cons (pe_nitemsV (pv 0)) pa_nil))))), ?_⟩
    refine ⟨_, rfl, d, m, rfl, hd, fi, fun H1 s1 => ?_⟩
    obtain ⟨kvs, h1, h2, h3, h4⟩ := hd.up s1
    refine ⟨_, rfl, d, kvs, rfl, .inl h1, fun v nv => ?_⟩
    have s2 : Same H1 (upd H1 v (DX.itemsO v d)) := fun a o e => (upd_ne (ne_of_none e nv)).trans e
    refine ⟨v, d, kvs, m, rfl, upd_same, .inl (s2 _ _ h1), h2.up (same_tups s2), h3, mo.alike, fun H3 l xs s3 hl hx => ?_⟩
    refine .inl ⟨l, xs, rfl, SqL.of hl, fun q nq => ?_⟩
    have s4 : Same H3 (upd H3 q (.tup xs)) := fun a o e => (upd_ne (ne_of_none e nq)).trans e
    refine go q _ (fun a o e => s4 a o (s3 a o (s2 a o (s1 a o e)))) ⟨.tup upd_same (KeyVs.up (same_tups s4) _ _ hx), fun x hx => mo x ((rise_perm m).mem_iff.mp hx), ?_⟩
    exact ((rise_perm m).map fun x : NI => x.1).nodup_iff.mpr h4
end
end K1P

set_option Elab.async false
set_option linter.all false
set_option maxRecDepth 100000
set_option maxHeartbeats 8000000
/-! Too many terms, too many figures: raised. -/
namespace K1P
open PySem L2 K1D
/-! ### the error -/
def spIni (K : PySem.W.Frag) (C : Addr) : Sp := fun vs H Q _ => ∃ (a : Addr) (y : Str), vs = [.ref a, .str y] ∧ y.length ≤ 1000 ∧ ErrC K C ∧ PySem.W.findIn K (.ref C) "word" = some none ∧ H a = some (exo a C none) ∧
  ∀ dx, H dx = none → dx ≠ a → Q .non (upd (upd H dx (exd dx [("word", .str y)])) a (exo a C (some dx)))
abbrev sTooMany : Stmt := inClass (top 3) 0
section
variable {P : Program} {w : World} {K : PySem.W.Frag} {mg : Str → Option Value} {base : Heap} {B : Addr}
theorem fitT {y : Str} (h : y.length ≤ 1000) : (Str.empty ++ ("too many " : Str) ++ y).length ≤ sizeLine := by
  have : (Str.empty ++ ("too many " : Str)).length ≤ 1000 := by decide +kernel
  rw [strLen_append, sizeLine_eq]
  omega
theorem scTooMany : FnScope ["self", "word"] ["self", "word"] (defScope sTooMany) := ⟨rfl, rfl, rfl, by decide +kernel, rfl, by decide +kernel, by decide +kernel⟩
theorem iniTooMany {f C : Addr} {fd : FuncData} (F : Fun K "__init__" "TooMany.__init__" sTooMany f fd) (T : BaseC K B) (gB : mg "FigureError" = some (.ref B)) : FnOk P w K mg base CX0 1 f fd ["self", "word"] (spIni K C) := by
  refine F.ok scTooMany (fun vs H Q E h => ?_) (fun cdv A outer s H vs Q E hr h => ?_)
  · obtain ⟨a, y, rfl, _⟩ := h
    rfl
  · obtain ⟨a, y, rfl, h, TC, no, ha, go⟩ := h
    refine ⟨_, pss_cons (ps_expr (pe_base T rfl gB (pa_cons (pv 0) (pa_cons (pe_joined (.cons pe_str (.cons (pe_fmt (pv 1)) .nil))) pa_nil)))) (pss_one (ps_field (pv 0) (pv 1))), ?_⟩
    refine ⟨_, rfl, _, rfl, by decide +kernel, _, rfl, ?_⟩
    exact .inl ⟨y, rfl, by rw [sizeLine_eq]; omega, _, rfl, fitT h, a, C, _, rfl, by show 1 ≤ 1000; decide, TC, ha, _, rfl, _, rfl, a, C, rfl, TC, no, ha, fun dx n ne => go dx n ne⟩
end
theorem heap_of {H : Hp} {a d : Addr} {o1 o2 o3 o4 : HO} (na : H a = none) (ne : d ≠ a) : upd (del (upd (upd (upd H a o1) d o2) a o3) a) d o4 = upd H d o4 := by
  funext b
  by_cases hd : b = d
  · rw [hd, upd_same, upd_same]
  · rw [upd_ne hd, upd_ne hd]
    by_cases ha : b = a
    · rw [ha, del_same, na]
    · rw [del_ne ha, upd_ne ha, upd_ne hd, upd_ne ha]
theorem okN {P : Program} {w : World} {K : PySem.W.Frag} {mg : Str → Option Value} {base : Heap} {x qual : Str} {st : Stmt} {f : Addr} {fd : FuncData} {N ps : List Str} {k : Nat} {sp : Sp} (F : Fun K x qual st f fd) (S : FnScope N ps (defScope st)) (len : ∀ vs H Q E, sp vs H Q E → vs.length = ps.length)
    (body : ∀ (cdv : Value) (A : Around) (outer : List Env) (s : Shared) (H : Hp) (vs : List V) (Q : VK) (E : XK), Room k (A.deeper (PyProof.Rows.envOfC qual (defScope st) s.heap.objs.size f cdv)) → sp vs H Q E →
      ∃ t, PSs (cxOf (L2N.CX P w) P w K mg base N qual (defScope st) f cdv A outer s H E) (defBody st) t ∧ t { nx := fun _ H' => Q .non H', rt := Q } (start N vs) H) : FnOk P w K mg base (L2N.CX P w) (k + 1) f fd ps sp := by
  obtain ⟨oc, od, kV, doc, pm, an, cdv, ct, osl, rfl, lk, hcd⟩ := F.ex
  exact fn_of lk hcd S len fun A outer s H vs Q E hr hsp => body cdv A outer s H vs Q E hr hsp
/-- what the written part says of the class -/
structure ManyTxt (P : Program) (w : World) (K : PySem.W.Frag) (mg : Str → Option Value) (base : Heap) (B C fI : Addr) (dI : FuncData) : Prop where
  gC : mg "TooMany" = some (.ref C)
  err : ErrC K C
  iC : PySem.W.findIn K (.ref C) "__init__" = some (some (.ref fI))
  tI : PySem.W.typeIn K (.ref fI) = some (.type "function")
  no : PySem.W.findIn K (.ref C) "word" = some none
  bd : Binds K dI ["self", "word"] []
  ini : FnOk P w K mg base CX0 1 fI dI ["self", "word"] (spIni K C)
  gB : mg "FigureError" = some (.ref B)
  exm : PySem.W.exmOne K (.ref C) (.ref C) = some true
  kit : PySem.W.kitOne K (.ref C) (.ref B) = some true
  ask : AskC K C
  xf : XfC K C
def Bad (m : List NI) (z : Str) : Prop := (2000 < m.length ∧ z = "terms") ∨ (m.length ≤ 2000 ∧ (∃ x ∈ m, tooGreat ≤ (x.2.natAbs : Int)) ∧ z = "figures")
/-- what is raised -/
def Raises (C : Addr) (z : Str) (H : Hp) (E : XK) : Prop := ∀ (G : Hp) (dd : Addr), Same H G → G dd = none → E (.ref C) (some dd) (upd G dd (.xd [("word", .str z)]))
section
variable {P : Program} {w : World} {K : PySem.W.Frag} {mg : Str → Option Value} {base : Heap} {B C fI : Addr} {dI : FuncData}
theorem err_read {H : Hp} {y : Str} {Q : XK} {σ : L2.St} (T : ManyTxt P w K mg base B C fI dI) (ly : y.length ≤ 1000) (go : ∀ d, H d = none → Q (.ref C) (some d) (upd H d (.xd [("word", .str y)]))) :
    tErr C (spIni K C) (tCons (tC (.str y)) tNil) σ H Q := by
  refine ⟨by show 1 ≤ 1000; decide, fun a na => ⟨a, y, rfl, ly, T.err, T.no, upd_same, fun dx nd ne => ⟨rfl, dx, _, upd_same, (upd_ne ne).trans upd_same, ?_, ?_⟩⟩⟩
  · rw [upd_ne ne] at nd
    exact nd
  · rw [heap_of na ne]
    rw [upd_ne ne] at nd
    exact go dx nd
def spCheckBad (K : PySem.W.Frag) (w : World) (C : Addr) : Sp := fun vs H _ E => ∃ (d : Addr) (m : List NI) (z : Str), vs = [.ref d] ∧ DictI K w H d m ∧ m.length < sizeLine ∧ Bad m z ∧ Raises C z H E
theorem ok_checkBad {f : Addr} {fd : FuncData} (F : Fun K "_check_limits" "_check_limits" sCheck f fd) (T : LimTxt K mg) (U : ManyTxt P w K mg base B C fI dI) : FnOk P w K mg base (L2N.CX P w) 3 f fd ["table"] (spCheckBad K w C) := by
  refine okN F scCheck (fun vs H Q E h => ?_) (fun cdv A outer s H vs Q E hr h => ?_)
  · obtain ⟨d, m, z, rfl, _⟩ := h
    rfl
  · obtain ⟨d, m, z, rfl, ⟨kvs, hd, ks, im, nd⟩, lt, bad, go⟩ := h
    obtain ⟨t1, g1⟩ := T.most
    obtain ⟨t2, g2⟩ := T.great
    refine ⟨_, pss_cons (ps_if (pt_cmpR op_gt (pe_callB call_len_dn (by rfl) T.len PySem.boot_len (pa_cons (pv 0) pa_nil)) (pe_glob (v := .int 2000) (by rfl) g1 ⟨t1, rfl⟩) (nomark _)) (pss_one (L2N.ps_raise rfl (L2N.takes_of rfl rfl rfl rfl) (pmk_err U.err U.iC U.tI U.ini hr U.bd pass0 rfl U.gC (pa_cons pe_str pa_nil)))) pss_nil)
      (pss_one (ps_if (pt_val (pe_callB (cr_any rfl) (by rfl) T.any (by decide +kernel) (pa_cons (pe_lock (pe_lc (own := [("many", 1)]) (g := gName 1) rfl scCheck.nd (pi_nvalues (pv 0))
        (blkOk_by (own := [("many", 1)]) (N := ["table", "many"]) (sc := defScope sCheck) (by decide +kernel)) (fun _ _ _ _ _ => pg_name (i := 1) scCheck.nd rfl (Or.inl rfl)) (fun _ _ _ _ _ => pts_nil)
        (te := tOp (rI0 fun i j => .bl (decide (j ≤ i))) (tCB (rAbs) (tCons (tVar 1) tNil)) (tC (.int tooGreat)))
        (fun _ _ _ _ _ => pe_cmpR op_ge (pe_callB (show CallR _ (.builtin "abs") rAbs from call_abs) (by rfl) T.abs (by decide +kernel) (pa_cons (pv 1) pa_nil)) (pe_glob (v := .int tooGreat) (by rfl) g2 ⟨t2, rfl⟩) (nomark _)))) pa_nil)))
        (pss_one (L2N.ps_raise rfl (L2N.takes_of rfl rfl rfl rfl) (pmk_err U.err U.iC U.tI U.ini hr U.bd pass0 rfl U.gC (pa_cons pe_str pa_nil)))) pss_nil)), ?_⟩
    have lk := ints_len im
    rcases bad with ⟨l, rfl⟩ | ⟨l, ex, rfl⟩
    · refine ⟨_, rfl, d, kvs, rfl, .inl hd, ks, _, _, rfl, rfl, _, rfl, ifY (decide_eq_true (by omega)) ?_⟩
      show tErr C (spIni K C) (tCons (tC (.str "terms")) tNil) _ H _
      exact err_read U (by decide +kernel) fun dd nd' => go H dd (fun _ _ q => q) nd'
    · refine ⟨_, rfl, d, kvs, rfl, .inl hd, ks, _, _, rfl, rfl, _, rfl, ifN (decide_eq_false (by omega)) ?_⟩
      refine ⟨d, _, hd, True.intro, fun od => ?_⟩
      refine ⟨_, rfl, d, od, kvs, rfl, upd_same, fun L nL => ?_⟩
      have Ld : L ≠ d := fun z => by rw [z, upd_same] at nL; cases nL
      rw [upd_ne Ld] at nL
      let bs : List Bool := m.map fun x => decide (tooGreat ≤ (if x.2 < 0 then -x.2 else x.2))
      refine blk_n (o := fun _ => .lst []) (n := kvs.length) (fun (i : Nat) (F : Hp) => Lk d od (dN w d kvs) H F ∧ F L = some (.lst ((bs.take i).map V.bl)))
        ⟨Lk.start.set Ld nL, upd_same⟩ (fun i F hi ⟨l, _⟩ => ⟨l.1, hi⟩) (fun F ⟨l, _⟩ => ⟨l.1, Nat.le_refl _⟩) (fun i F x F' hi ⟨lk', h1⟩ hy => ?_) (fun F ⟨lk', h1⟩ => ?_)
      · obtain ⟨rfl, e, he, rfl⟩ := hy
        obtain ⟨c, hc, hv⟩ := ints_at im he
        have hb : bs[i]? = some (decide (tooGreat ≤ (if c < 0 then -c else c))) := by
          show (m.map _)[i]? = _
          rw [List.getElem?_map, hc]
          rfl
        have lb : i < bs.length := (List.getElem?_eq_some_iff.mp hb).1
        have ll : ((bs.take i).map V.bl).length < sizeLine := by
          rw [List.length_map, List.length_take, sizeLine_eq]
          omega
        refine ⟨rfl, _, rfl, c, by rw [hv], _, _, rfl, rfl, _, h1, ll, lk'.set Ld nL, ?_⟩
        rw [upd_same, List.take_succ_eq_append_getElem lb, List.map_append, (List.getElem?_eq_some_iff.mp hb).2]
        rfl
      · have lb : bs.length = kvs.length := by
          show (m.map _).length = _
          rw [List.length_map]
          exact lk.symm
        rw [← lb, List.take_length] at h1
        refine ⟨lk'.1, L, bs, rfl, SqL.of ((upd_ne Ld).trans h1), ?_⟩
        have tr : bs.any id = true := by
          obtain ⟨x, hx, gx⟩ := ex
          refine List.any_eq_true.mpr ⟨_, List.mem_map.mpr ⟨x, hx, rfl⟩, ?_⟩
          refine decide_eq_true ?_
          split <;> omega
        rw [tr]
        refine ⟨_, rfl, ifY rfl ?_⟩
        show tErr C (spIni K C) (tCons (tC (.str "figures")) tNil) _ _ _
        exact err_read U (by decide +kernel) fun dd nd' => go _ dd (lk'.done hd) nd'
def spOfBad (K : PySem.W.Frag) (w : World) (C : Addr) : Sp := fun vs H _ E => ∃ (d : Addr) (m : List NI) (z : Str), vs = [.ref d] ∧ DictI K w H d m ∧ m.length < sizeLine ∧ Bad m z ∧ Raises C z H E
theorem ok_ofBad {f fC : Addr} {fd fdC : FuncData} (F : Fun K "_of_monomials" "_of_monomials" sOf f fd) (T : LimTxt K mg) (GC : FnOk P w K mg base (L2N.CX P w) 3 fC fdC ["table"] (spCheckBad K w C)) (bC : Binds K fdC ["table"] []) (gC : mg "_check_limits" = some (.ref fC)) (kC : PySem.W.keepIn K (.ref fC) = true) :
    FnOk P w K mg base (L2N.CX P w) 4 f fd ["table"] (spOfBad K w C) := by
  refine okN F scOf (fun vs H Q E h => ?_) (fun cdv A outer s H vs Q E hr h => ?_)
  · obtain ⟨d, m, z, rfl, _⟩ := h
    rfl
  · obtain ⟨d, m, z, rfl, hd, lt, bad, go⟩ := h
    refine ⟨_, pss_cons (ps_expr (pe_callS GC hr rfl gC kC bC (fun σ => L2N.passAt (L2N.takes_of rfl rfl rfl rfl) σ) (pa_cons (pv 0) pa_nil)))
      (pss_one (ps_ret (pe_tupleOf (by rfl) T.tuple (pe_callB (cr_sortN rfl hr.units) (by rfl) T.sorted (by decide +kernel) (pa_cons (pe_nitemsV (pv 0)) pa_nil))))), ?_⟩
    exact ⟨_, rfl, d, m, z, rfl, hd, lt, bad, go⟩
theorem raises_up {z : Str} {H G : Hp} {E : XK} (h : Raises C z H E) (s : Same H G) : Raises C z G E := fun F dd t n => h F dd (fun a o q => t a o (s a o q)) n
end
end K1P

set_option Elab.async false
set_option linter.all false
set_option maxRecDepth 100000
set_option maxHeartbeats 8000000
set_option autoImplicit false
set_option pp.maxSteps 600
/-! figurehold.polys: _check_limits of tables with int keys, _told. -/
namespace K2P
open PySem L2 K1D
open K1P (LimTxt ManyTxt Raises tooGreat rAbs sCheck scCheck spIni okN err_read raises_up)
def FitsC (l : List Int) : Prop := l.length ≤ 2000 ∧ ∀ c ∈ l, ((c.natAbs : Nat) : Int) < tooGreat
def BadC (l : List Int) (z : Str) : Prop := (2000 < l.length ∧ z = "terms") ∨ (l.length ≤ 2000 ∧ (∃ c ∈ l, tooGreat ≤ ((c.natAbs : Nat) : Int)) ∧ z = "figures")
theorem FitsC.perm {l m : List Int} (h : FitsC l) (p : m.Perm l) : FitsC m := ⟨by rw [p.length_eq]; exact h.1, fun c hc => h.2 c (p.mem_iff.mp hc)⟩
theorem BadC.perm {l m : List Int} {z : Str} (h : BadC l z) (p : m.Perm l) : BadC m z := by
  rcases h with ⟨a, b⟩ | ⟨a, ⟨c, hc, g⟩, b⟩
  · exact .inl ⟨by rw [p.length_eq]; exact a, b⟩
  · exact .inr ⟨by rw [p.length_eq]; exact a, ⟨c, p.mem_iff.mpr hc, g⟩, b⟩
theorem fits_or (l : List Int) : FitsC l ∨ ∃ z, BadC l z := by
  by_cases h : l.length ≤ 2000
  · by_cases g : ∃ c ∈ l, tooGreat ≤ ((c.natAbs : Nat) : Int)
    · exact .inr ⟨_, .inr ⟨h, g, rfl⟩⟩
    · exact .inl ⟨h, fun c hc => Classical.byContradiction fun n => g ⟨c, hc, by omega⟩⟩
  · exact .inr ⟨_, .inl ⟨by omega, rfl⟩⟩
def cs (T : KI) : List Int := T.map (·.2)
def spLim : Sp := fun vs H Q _ => ∃ (d : Addr) (T : KI), vs = [.ref d] ∧ TabAt H d T ∧ FitsC (cs T) ∧ ∀ G, Same H G → Q .non G
def spLimBad (C : Addr) : Sp := fun vs H _ E => ∃ (d : Addr) (T : KI) (z : Str), vs = [.ref d] ∧ TabAt H d T ∧ T.length < sizeLine ∧ BadC (cs T) z ∧ Raises C z H E
theorem cs_len (T : KI) : (cs T).length = T.length := List.length_map ..
def bigB (c : Int) : Bool := decide (tooGreat ≤ (if c < 0 then -c else c))
theorem bigB_iff (c : Int) : bigB c = true ↔ tooGreat ≤ ((c.natAbs : Nat) : Int) := by
  unfold bigB
  rw [decide_eq_true_eq]
  split <;> omega
theorem fits_any {l : List Int} (h : FitsC l) : l.any bigB = false := by
  rw [List.any_eq_false]
  intro c hc e
  have := h.2 c hc
  have := (bigB_iff c).mp e
  omega
theorem bad_any {l : List Int} (h : ∃ c ∈ l, tooGreat ≤ ((c.natAbs : Nat) : Int)) : l.any bigB = true := by
  obtain ⟨c, hc, g⟩ := h
  exact List.any_eq_true.mpr ⟨c, hc, (bigB_iff c).mpr g⟩
section
variable {P : Program} {w : World} {K : PySem.W.Frag} {mg : Str → Option Value} {base : Heap} {B C fI : Addr} {dI : FuncData}
/-- is there one past the bound -/
theorem big_read {H : Hp} {d : Addr} {T : KI} {Q : VK} (hd : TabAt H d T) (hl : T.length < sizeLine) (go : ∀ G, Same H G → Q (.bl ((cs T).any bigB)) G) :
    tCB (rAny K) (tCons (tLockE (tLc (iVals (tVar 0)) (gName 1) tYes (tOp (rI0 fun i j => .bl (decide (j ≤ i))) (tCB (rAbs) (tCons (tVar 1) tNil)) (tC (.int tooGreat))) [1])) tNil) (start ["table", "many"] [.ref d]) H Q := by
  refine ⟨d, _, hd.1, True.intro, fun od => ?_⟩
  refine ⟨_, rfl, d, od, _, rfl, upd_same, fun L nL => ?_⟩
  have Ld : L ≠ d := fun z => by rw [z, upd_same] at nL; cases nL
  rw [upd_ne Ld] at nL
  refine blk_n (o := fun _ => .lst []) (n := (mpT eI T).length) (fun (i : Nat) (F : Hp) => LkT d od (.dK (mpT eI T)) H F ∧ F L = some (.lst ((((cs T).map bigB).take i).map V.bl)))
    ⟨LkT.start.set Ld nL, upd_same⟩ (fun i F hi ⟨l, _⟩ => ⟨l.1, hi⟩) (fun F ⟨l, _⟩ => ⟨l.1, Nat.le_refl _⟩) (fun i F x F' hi ⟨lk', h1⟩ hy => ?_) (fun F ⟨lk', h1⟩ => ?_)
  · obtain ⟨rfl, k, hk⟩ := hy
    obtain ⟨y, hy, _, e⟩ := at_mpT hk
    subst e
    have hb : ((cs T).map bigB)[i]? = some (bigB y.2) := by
      unfold cs
      rw [List.getElem?_map, List.getElem?_map, hy]
      rfl
    have ll : ((((cs T).map bigB).take i).map V.bl).length < sizeLine := by
      rw [List.length_map, List.length_take, List.length_map, cs_len]
      omega
    refine ⟨rfl, _, rfl, y.2, rfl, _, _, rfl, rfl, _, h1, ll, lk'.set Ld nL, ?_⟩
    rw [upd_same, take_snoc hb, List.map_append]
    rfl
  · rw [len_mpT, ← cs_len T, ← List.length_map (f := bigB), List.take_length] at h1
    refine ⟨lk'.1, L, (cs T).map bigB, rfl, SqL.of ((upd_ne Ld).trans h1), ?_⟩
    have e : ((cs T).map bigB).any id = (cs T).any bigB := List.any_map ..
    rw [e]
    exact go _ (lk'.done hd.1)
theorem ok_lim {f : Addr} {fd : FuncData} (F : Fun K "_check_limits" "_check_limits" sCheck f fd) (T : LimTxt K mg) : FnOk P w K mg base CX0 1 f fd ["table"] spLim := by
  refine F.ok scCheck (fun vs H Q E h => ?_) (fun cdv A outer s H vs Q E hr h => ?_)
  · obtain ⟨d, m, rfl, _⟩ := h
    rfl
  · obtain ⟨d, m, rfl, hd, fi, go⟩ := h
    obtain ⟨t1, g1⟩ := T.most
    obtain ⟨t2, g2⟩ := T.great
    have hl : m.length < sizeLine := by have := fi.1; rw [cs_len] at this; rw [sizeLine_eq]; omega
    refine ⟨_, (pss_cons (ps_if (pt_cmpR op_gt (pe_callB call_lenD (by rfl) T.len PySem.boot_len (pa_cons (pv 0) pa_nil)) (pe_glob (v := .int 2000) (by rfl) g1 ⟨t1, rfl⟩) (nomark _)) pss_never pss_nil)
      (pss_one (ps_if (pt_val (pe_callB (cr_any rfl) (by rfl) T.any (by decide +kernel) (pa_cons (pe_lock (pe_lc (own := [("many", 1)]) (g := (gName 1)) (tt := tYes) (te := (tOp (rI0 fun i j => .bl (decide (j ≤ i))) (tCB (rAbs) (tCons (tVar 1) tNil)) (tC (.int tooGreat)))) rfl scCheck.nd (pi_values (pv 0)) (blkOk_by (own := [("many", 1)]) (N := ["table", "many"]) (sc := defScope sCheck) (by decide +kernel)) (fun _ _ _ _ _ => (pg_name (i := 1) scCheck.nd rfl (Or.inl rfl))) (fun _ _ _ _ _ => pts_nil) (fun _ _ _ _ _ => (pe_cmpR op_ge (pe_callB (show CallR _ (.builtin "abs") rAbs from call_abs) (by rfl) T.abs (by decide +kernel) (pa_cons (pv 1) pa_nil)) (pe_glob (v := .int tooGreat) (by rfl) g2 ⟨t2, rfl⟩) (nomark _))))) pa_nil))) pss_never pss_nil))), ?_⟩
    refine ⟨_, rfl, d, _, rfl, hd.1, _, _, rfl, rfl, _, rfl, ifN (decide_eq_false (by rw [len_mpT]; have := fi.1; rw [cs_len] at this; omega)) ?_⟩
    exact big_read hd hl fun G s => ⟨_, rfl, ifN (fits_any fi) (go G s)⟩
theorem ok_limBad {f : Addr} {fd : FuncData} (F : Fun K "_check_limits" "_check_limits" sCheck f fd) (T : LimTxt K mg) (U : ManyTxt P w K mg base B C fI dI) : FnOk P w K mg base (L2N.CX P w) 3 f fd ["table"] (spLimBad C) := by
  refine okN F scCheck (fun vs H Q E h => ?_) (fun cdv A outer s H vs Q E hr h => ?_)
  · obtain ⟨d, m, z, rfl, _⟩ := h
    rfl
  · obtain ⟨d, m, z, rfl, hd, hl, bad, go⟩ := h
    obtain ⟨t1, g1⟩ := T.most
    obtain ⟨t2, g2⟩ := T.great
    refine ⟨_, (pss_cons (ps_if (pt_cmpR op_gt (pe_callB call_lenD (by rfl) T.len PySem.boot_len (pa_cons (pv 0) pa_nil)) (pe_glob (v := .int 2000) (by rfl) g1 ⟨t1, rfl⟩) (nomark _)) (pss_one (L2N.ps_raise rfl (L2N.takes_of rfl rfl rfl rfl) (pmk_err U.err U.iC U.tI U.ini hr U.bd pass0 rfl U.gC (pa_cons pe_str pa_nil)))) pss_nil)
      (pss_one (ps_if (pt_val (pe_callB (cr_any rfl) (by rfl) T.any (by decide +kernel) (pa_cons (pe_lock (pe_lc (own := [("many", 1)]) (g := (gName 1)) (tt := tYes) (te := (tOp (rI0 fun i j => .bl (decide (j ≤ i))) (tCB (rAbs) (tCons (tVar 1) tNil)) (tC (.int tooGreat)))) rfl scCheck.nd (pi_values (pv 0)) (blkOk_by (own := [("many", 1)]) (N := ["table", "many"]) (sc := defScope sCheck) (by decide +kernel)) (fun _ _ _ _ _ => (pg_name (i := 1) scCheck.nd rfl (Or.inl rfl))) (fun _ _ _ _ _ => pts_nil) (fun _ _ _ _ _ => (pe_cmpR op_ge (pe_callB (show CallR _ (.builtin "abs") rAbs from call_abs) (by rfl) T.abs (by decide +kernel) (pa_cons (pv 1) pa_nil)) (pe_glob (v := .int tooGreat) (by rfl) g2 ⟨t2, rfl⟩) (nomark _))))) pa_nil))) (pss_one (L2N.ps_raise rfl (L2N.takes_of rfl rfl rfl rfl) (pmk_err U.err U.iC U.tI U.ini hr U.bd pass0 rfl U.gC (pa_cons pe_str pa_nil)))) pss_nil))), ?_⟩
    rcases bad with ⟨l, rfl⟩ | ⟨l, ex, rfl⟩
    · rw [cs_len] at l
      refine ⟨_, rfl, d, _, rfl, hd.1, _, _, rfl, rfl, _, rfl, ifY (decide_eq_true (by rw [len_mpT]; omega)) ?_⟩
      show tErr C (spIni K C) (tCons (tC (.str "terms")) tNil) _ H _
      exact err_read U (by decide +kernel) fun dd nd' => go H dd (fun _ _ q => q) nd'
    · rw [cs_len] at l
      refine ⟨_, rfl, d, _, rfl, hd.1, _, _, rfl, rfl, _, rfl, ifN (decide_eq_false (by rw [len_mpT]; omega)) ?_⟩
      refine big_read hd hl fun G s => ⟨_, rfl, ifY (bad_any ex) ?_⟩
      show tErr C (spIni K C) (tCons (tC (.str "figures")) tNil) _ G _
      exact err_read U (by decide +kernel) fun dd nd' => go G dd s nd'
end
end K2P

set_option Elab.async false
set_option linter.all false
set_option maxRecDepth 100000
set_option maxHeartbeats 4000000
/-! Sets of texts and ints that can be walked. Speaks of no program. -/
namespace K2S
open PySem PySem.Spec PyProof.Rows L2
/-- the key that a member is -/
def kyV : Value → Key
  | .int i _ => .inl i
  | .str x _ => .inr x
  | _ => .inl 0
theorem kyV_rel {k : Key} {u : Value} (r : RelV (kV k) u) : kyV u = k := by
  cases k with
  | inl i => obtain ⟨t, rfl⟩ := r; rfl
  | inr x => obtain ⟨t, rfl⟩ := r; rfl
def MemOk (w : World) (e : Int × Value) : Prop := RelV (kV (kyV e.2)) e.2 ∧ e.1 = keyH w (kyV e.2)
/-- what its table must be, to be walked -/
structure Wlk (w : World) (es : Array (Int × Value)) (t : SetTable) : Prop where
  few : es.size < scanBound
  fit : t.fits es.size = true
  ris : Ris t.place.toList
  led : w.params.followText "set-order" = true ∨ t.led = true
structure Rws (w : World) (es : Array (Int × Value)) (S : Key → Bool) : Prop where
  ok : ∀ e ∈ es.toList, MemOk w e
  nd : (es.toList.map fun e => kyV e.2).Nodup
  mem : ∀ k, S k = true ↔ k ∈ es.toList.map fun e => kyV e.2
def SetM (w : World) (h : Heap) (a : Addr) (S : Key → Bool) (n : Nat) : Prop :=
  ∃ o es ep t, (h.get? a = some o ∧ o.ExactSet ∧ o.data = .set es ep t) ∧ Rws w es S ∧ Wlk w es t ∧ es.size = n
section
variable {P : Program} {w : World} {h h' : Heap} {a : Addr} {S : Key → Bool} {n : Nat}
theorem SetM.at (R : SetM w h a S n) (k : ∀ o, h.get? a = some o → h'.get? a = some o) : SetM w h' a S n :=
  let ⟨o, es, ep, t, ⟨h1, h2⟩, r⟩ := R; ⟨o, es, ep, t, ⟨k o h1, h2⟩, r⟩
theorem MemOk.is {e : Int × Value} (g : MemOk w e) (k : Key) : (mixKind P w).is k e.2 = true ↔ kyV e.2 = k := by
  constructor
  · intro q
    exact ((mixKind P w).inj e.2 _ _ (kV_is g.1) q)
  · rintro rfl
    exact kV_is g.1
theorem Rws.elems {es : Array (Int × Value)} (R : Rws w es S) : ElemsOf (mixKind P w) es.toList := fun e he =>
  ⟨⟨kyV e.2, kV_is (R.ok e he).1, (R.ok e he).2⟩, key_scan (R.ok e he).1⟩
theorem Rws.ex {es : Array (Int × Value)} (R : Rws w es S) (k : Key) : S k = true ↔ ∃ e ∈ es.toList, (mixKind P w).is k e.2 = true := by
  rw [R.mem, List.mem_map]
  exact ⟨fun ⟨e, he, q⟩ => ⟨e, he, ((R.ok e he).is k).2 q⟩, fun ⟨e, he, q⟩ => ⟨e, he, ((R.ok e he).is k).1 q⟩⟩
theorem Rws.perm {es es' : Array (Int × Value)} (R : Rws w es S) (p : es'.toList.Perm es.toList) : Rws w es' S where
  ok := fun e he => R.ok e (p.mem_iff.mp he)
  nd := (p.map _).nodup_iff.mpr R.nd
  mem := fun k => (R.mem k).trans (p.map _).mem_iff.symm
theorem SetM.setOf (R : SetM w h a S n) : h.SetOf (mixKind P w) a S n := by
  obtain ⟨o, es, ep, t, ⟨ho, hx, hd⟩, r, k, e⟩ := R
  exact ⟨o, es, ep, t, ho, hx, hd, r.elems, r.ex, k.few, k.fit, e⟩
/-- one more -/
theorem Rws.add {es es1 : Array (Int × Value)} {k : Key} {u : Value} (R : Rws w es S) (ru : RelV (kV k) u) (new : S k = false) (p : es1.toList.Perm ((keyH w k, u) :: es.toList)) : Rws w es1 fun j => S j || decide (j = k) := by
  have ku := kyV_rel ru
  have pk : (es1.toList.map fun e => kyV e.2).Perm (k :: es.toList.map fun e => kyV e.2) := by
    have := p.map fun e : Int × Value => kyV e.2
    rw [List.map_cons] at this
    rw [show kyV (keyH w k, u).2 = k from ku] at this
    exact this
  refine ⟨fun e he => ?_, pk.nodup_iff.mpr (List.nodup_cons.mpr ⟨fun z => ?_, R.nd⟩), fun j => ?_⟩
  · rcases List.mem_cons.mp (p.mem_iff.mp he) with q | q
    · rw [q]
      exact ⟨by show RelV (kV (kyV u)) u; rw [ku]; exact ru, by show keyH w k = keyH w (kyV u); rw [ku]⟩
    · exact R.ok e q
  · rw [(R.mem k).2 z] at new
    cases new
  · rw [Bool.or_eq_true, decide_eq_true_eq, R.mem, pk.mem_iff, List.mem_cons]
    exact Or.comm
end
section
variable {P : Program} {w : World} {A : Around} {E : Value → Shared → Prop} {s : Shared} {a : Addr} {S S' : Key → Bool} {n : Nat}
theorem put_at {h : Heap} {o : Obj} {es es' : Array (Int × Value)} {ep : Nat} {t t' : SetTable} (ho : h.get? a = some o) (hd : o.data = .set es ep t) :
    (h.update a (Obj.putSet es' t')).get? a = some { o with data := .set es' (ep + 1) t' } := by
  have z := Heap.get?_update_self (Obj.putSet es' t') ho (by rw [putSet_of es' t' hd]; rfl)
  rwa [putSet_of es' t' hd] at z
/-- the new rows stored, and laid anew where they are too many -/
theorem laid_in {g : Bool → Sem Unit} (hg : ∀ (b : Bool) (s₁ : Shared) (Q' : Unit → Shared → Prop), Q' () s₁ → wpAny (model P w) A (g b) Q' E s₁) {o : Obj} {es es1 : Array (Int × Value)} {ep : Nat} {t t2 : SetTable}
    (at0 : s.heap.get? a = some o ∧ o.ExactSet ∧ o.data = .set es ep t) (R1 : Rws w es1 S') (W1 : Wlk w es1 t2) {wasDummy : Bool} {G : Option Bool → Shared → Prop} (go : ∀ h', Heap.SameBut a s.heap h' → SetM w h' a S' es1.size → G (some true) { s with heap := h' }) :
    wpAny (model P w) A (do
        storeSet a es1 t2
        if (!wasDummy && t2.tooFull) = true then do
            g (relayAll t2 es1 (SetTable.grown es1.size)).2.2
            storeSet a (relayAll t2 es1 (SetTable.grown es1.size)).1 (relayAll t2 es1 (SetTable.grown es1.size)).2.1
            pure (some true)
          else pure (some true)) G E s := by
  obtain ⟨ho, hx, hd⟩ := at0
  refine wpAny_bind (wpAny_storeSet_of ho hd ?_ (fits_of_scanBound W1.few))
  have o1 := put_at (es' := es1) (t' := t2) ho hd
  have b1 := Heap.SameBut.update s.heap a (Obj.putSet es1 t2)
  split
  · have p := relayAll_perm t2 es1 (SetTable.grown es1.size)
    have f := relayAll_fits t2 es1 (SetTable.grown es1.size)
    have r := relayAll_ris t2 es1 (SetTable.grown es1.size)
    have l := relayAll_led t2 es1 (SetTable.grown es1.size)
    generalize relayAll t2 es1 (SetTable.grown es1.size) = Z at p f r l ⊢
    obtain ⟨es2, t3, gave⟩ := Z
    dsimp only at p f r l ⊢
    have size2 : es2.size = es1.size := by rw [← Array.length_toList, p.length_eq, Array.length_toList]
    have W2 : Wlk w es2 t3 := ⟨by rw [size2]; exact W1.few, f, r, W1.led.imp id fun z => l.trans z⟩
    refine wpAny_bind (hg _ _ _ (wpAny_bind (wpAny_storeSet_of o1 rfl ?_ (fits_of_scanBound W2.few))))
    exact wpAny_pure (go _ (b1.trans (Heap.SameBut.update _ a _)) ⟨_, es2, _, t3, ⟨put_at o1 rfl, hx, rfl⟩, R1.perm p, W2, size2⟩)
  · exact wpAny_pure (go _ b1 ⟨_, es1, _, t2, ⟨o1, hx, rfl⟩, R1, W1, rfl⟩)
theorem add_hashed {k : Key} {u : Value} {Q : Bool → Shared → Prop} (ru : RelV (kV k) u) (R : SetM w s.heap a S n) (room : n + 1 < scanBound)
    (go : ∀ h', Heap.SameBut a s.heap h' → SetM w h' a (fun j => S j || decide (j = k)) (if S k = true then n else n + 1) → Q (!S k) { s with heap := h' }) :
    wpAny (model P w) A (setAddHashed a u (keyH w k)) Q E s := by
  obtain ⟨o, es, ep, t, at0, r, W, en⟩ := R
  obtain ⟨ho, hx, hd⟩ := id at0
  have sc : u.scannable = true := key_scan ru
  have el : ElemsOf (mixKind P w) es.toList := r.elems
  have quiet : ∀ (b : Bool) (s₁ : Shared) (Q' : Unit → Shared → Prop), Q' () s₁ → wpAny (model P w) A (match b with | true => rule "set.scan.the-table-gave-way" | false => pure ()) Q' E s₁ := fun b s₁ Q' q => by
    cases b
    · exact wpAny_pure q
    · exact wpAny_rule q
  unfold setAddHashed setAddHashedIn
  refine wpAny_holding (wpAny_bind (wpAny_setState_of ho hd W.fit ?_))
  dsimp only
  rw [byScan_of sc W.few el]
  simp only [↓reduceIte]
  unfold setAddByScan
  refine wpAny_bind (wpAny_bind (wpAny_rule (wpAny_bind (wpAny_setScan_of (knd := mixKind P w) (k := k) (kV_is ru) ho hd W.fit el ?_))))
  cases found : List.findIdx? (fun e => (mixKind P w).is k e.2) es.toList with
  | some j =>
    dsimp only
    obtain ⟨hj, pj, _⟩ := List.findIdx?_eq_some_iff_getElem.mp found
    have in' : S k = true := (r.ex (P := P) k).2 ⟨es.toList[j], List.getElem_mem hj, pj⟩
    have r' : Rws w es fun j => S j || decide (j = k) := ⟨r.ok, r.nd, fun i => by
      rw [Bool.or_eq_true, decide_eq_true_eq, ← r.mem i]
      exact ⟨fun z => z.elim id fun e => by rw [e]; exact in', .inl⟩⟩
    have z := go s.heap (Heap.SameBut.refl a s.heap) ⟨o, es, ep, t, at0, r', W, by rw [if_pos in']; exact en⟩
    rw [in'] at z
    exact wpAny_pure (wpAny_pure z)
  | none =>
    dsimp only
    have out : S k = false := by
      cases q : S k with
      | false => rfl
      | true =>
        obtain ⟨e, he, z⟩ := (r.ex (P := P) k).1 q
        have := List.findIdx?_eq_none_iff.mp found e he
        rw [z] at this
        cases this
    have p0 := layNew_perm t es (keyH w k) u
    have f0 := layNew_fits t es (keyH w k) u
    have r0 := layNew_ris t es (keyH w k) u W.ris
    have l0 := layNew_led t es (keyH w k) u
    show wpAny _ _ (match layNew t es (keyH w k) u with | _ => _) _ _ _
    generalize layNew t es (keyH w k) u = Z at p0 f0 r0 l0 ⊢
    obtain ⟨es1, t1, wasDummy, gave⟩ := Z
    dsimp only at p0 f0 r0 l0 ⊢
    rw [Array.toList_push] at p0
    have p1 : es1.toList.Perm ((keyH w k, u) :: es.toList) := p0.trans (List.perm_append_singleton _ _)
    have R1 := r.add ru out p1
    have size1 : es1.size = n + 1 := by rw [← Array.length_toList, p1.length_eq, List.length_cons, Array.length_toList, en]
    have W1 : Wlk w es1 t1 := ⟨by rw [size1]; exact room, f0, r0, W.led.imp id fun z => l0.trans z⟩
    have fin : ∀ h', Heap.SameBut a s.heap h' → SetM w h' a (fun j => S j || decide (j = k)) es1.size → Q true { s with heap := h' } := fun h' sb m => by
      have z := go h' sb
      rw [out] at z
      rw [size1] at m
      exact z m
    refine wpAny_bind (quiet _ _ _ ?_)
    split
    · refine wpAny_bind ?_
      rw [hashByValue_scannable 8 sc]
      refine wpAny_pure ?_
      refine laid_in quiet at0 R1 ?_ ?_
      · split <;> first | exact W1 | exact ⟨W1.few, SetTable.fits_plain_off W1.fit, W1.ris, W1.led⟩
      · intro h' sb m; dsimp only; exact wpAny_pure (fin h' sb m)
    · refine wpAny_bind (wpAny_pure ?_)
      simp only [↓reduceIte]
      refine laid_in quiet at0 R1 W1 ?_
      intro h' sb m; dsimp only; exact wpAny_pure (fin h' sb m)
theorem call_add {k : Key} {u : Value} {Q : Value → Shared → Prop} (ru : RelV (kV k) u) (R : SetM w s.heap a S n) (room : n + 1 < scanBound)
    (go : ∀ h', Heap.SameBut a s.heap h' → SetM w h' a (fun j => S j || decide (j = k)) (if S k = true then n else n + 1) → Q .none { s with heap := h', toks := s.toks + 1 }) :
    wpAny (model P w) A (call (.builtin "set.add") [.ref a, u]) Q E s := by
  have so : s.heap.SetOf (mixKind P w) a S n := R.setOf
  refine wpAny_call_entry F.slot_set_add so.typeIs F.entry_set_add ?_ (F.args_set_add_2 _ _)
  unfold Builtin.«set.add» Builtin.Frozenset.oneOther
  simp only [List.isEmpty_nil, bind_assoc]
  unfold Builtin.Frozenset.addrOf setAdd
  refine wpAny_bind (wpAny_pure ?_)
  try dsimp only
  refine wpAny_bind (wpAny_pure ?_)
  try dsimp only
  refine wpAny_bind (wpAny_holding (wpAny_bind ((mixKind P w).pyHash (kV_is ru) ?_)))
  refine add_hashed (s := { s with toks := s.toks + 1 }) ru R room fun h' sb m => ?_
  show wpAny _ _ (ret Value.none) _ _ _
  exact wpAny_pure ⟨_, rfl, go h' sb m⟩
theorem fresh (h : Heap) (w : World) : SetM w (h.push { cls := .type "set", dict := none, data := .set #[] 0 (.fresh 0 0 (!w.params.followText "set-order")) }) h.objs.size (fun _ => false) 0 :=
  ⟨_, #[], 0, _, ⟨Heap.get?_push_size _ rfl, ⟨rfl, rfl, rfl⟩, rfl⟩, ⟨fun e he => by simp at he, by simp, fun k => by simp⟩, ⟨by decide, by rfl, .nil, by
    show _ ∨ (!w.params.followText "set-order") = true
    cases w.params.followText "set-order"
    · exact .inr rfl
    · exact .inl rfl⟩, rfl⟩
end
/-- the set at a -/
def SetMO (w : World) (a : Addr) (S : Key → Bool) (n : Nat) : HO := .ext fun h => SetM w h a S n
theorem setMO_ok {P : Program} {w : World} {H : Hp} {h : Heap} {a : Addr} {S : Key → Bool} {n : Nat} (R : SetM w h a S n) : ObjOk P w H h a (SetMO w a S n) :=
  ⟨R, let ⟨o, _, _, _, ⟨ho, _⟩, _⟩ := R; ⟨o, ho⟩, fun _ _ p k => SetM.at p k⟩
section
variable {X : Cx} {pins : List (Addr × Obj)} {σ : L2.St} {H : Hp} {s : Shared}
theorem setMO_get {a : Addr} {S : Key → Bool} {n : Nat} (I : Inv X pins σ H s) (ha : H a = some (SetMO X.w a S n)) : SetM X.w s.heap a S n := (I.hok a _ ha).1
theorem add_ok {E : Value → Shared → Prop} {D : Addr} {S : Key → Bool} {n : Nat} {k : Key} {u : Value} {Q : Value → Shared → Prop} (I : Inv X pins σ H s) (hD : H D = some (SetMO X.w D S n)) (ru : RelV (kV k) u) (room : n + 1 < scanBound)
    (go : ∀ s', Inv X pins σ (upd H D (SetMO X.w D (fun j => S j || decide (j = k)) (if S k = true then n else n + 1))) s' → Q .none s') : wpAny (model X.prog X.w) X.A (call (.builtin "set.add") [.ref D, u]) Q E s := by
  refine call_add ru (setMO_get I hD) room fun h' sb m => go _ (I.write (e := D) (t' := s.toks + 1) (by rw [hD]; trivial) (.inl rfl) (fun b o hb ho => (sb.2 b hb).trans ho) ?_ (setMO_ok m))
  obtain ⟨o, _, _, _, ⟨ho, _⟩, _⟩ := m
  exact ⟨o, ho⟩
end
end K2S

set_option Elab.async false
set_option linter.all false
set_option maxRecDepth 100000
set_option maxHeartbeats 4000000
/-! {elt for t0 in i0 for t1 in i1}: a set of texts and ints. Speaks of no program. -/
namespace K2S
open PySem PySem.Spec PyProof.Rows L2

/-- the comprehension -/
abbrev scE (elt t0 i0 t1 i1 : Expr) (sc : Scope) (pos : Pos) : Expr := .SetComp elt [⟨t0, i0, [], 0⟩, ⟨t1, i1, [], 0⟩] sc pos
theorem turn_out (elt t0 i0 t1 i1 : Expr) (sc : Scope) (pos : Pos) (it acc : Value) (env : Env) : compTurn (scE elt t0 i0 t1 i1 sc pos) 0 it acc env =
    (standAt i0.pos >>= fun _ => pyNext it >>= fun r => match r with
      | none => pure (.done .next)
      | some v => letOwnedTupleGo t0 it v >>= fun _ => assign t0 env v >>= fun _ => eval i1 env >>= fun x => standAt i1.pos >>= fun _ => foldedSetIterable i1 env x >>= fun x =>
          holding [x] (pyIter x) >>= fun y => runOwn (.compStart (scE elt t0 i0 t1 i1 sc pos) 1 y acc env) env >>= fun _ => again (.compLoop (scE elt t0 i0 t1 i1 sc pos) 0 it acc env)) := by rfl
theorem turn_in (elt t0 i0 t1 i1 : Expr) (sc : Scope) (pos : Pos) (it acc : Value) (env : Env) : compTurn (scE elt t0 i0 t1 i1 sc pos) 1 it acc env =
    (standAt i1.pos >>= fun _ => pyNext it >>= fun r => match r with
      | none => pure (.done .next)
      | some v => letOwnedTupleGo t1 it v >>= fun _ => assign t1 env v >>= fun _ => (do let v ← eval elt env; standAt elt.pos; let _ ← call (.builtin "set.add") [acc, v]) >>= fun _ => again (.compLoop (scE elt t0 i0 t1 i1 sc pos) 1 it acc env)) := by rfl
section
variable {prog : Program} {w : World} {A : Around} {R : Result → Shared → Prop} {s : Shared} {elt t0 i0 t1 i1 : Expr} {sc : Scope} {pos : Pos} {it acc : Value} {env : Env}
/-- what is wanted where something is raised in the block -/
abbrev Nb (prog : Program) (w : World) (A : Around) (env : Env) (R : Result → Shared → Prop) : Value → Shared → Prop := notedBy (model prog w) A env fun e s' => R (.error e) s'
theorem loop_out (hs : ∀ x, foldedSetIterable i1 env x = pure x) (J : Nat → Shared → Prop)
    (turn : ∀ n s, J n s → wpAny (model prog w) A (pyNext it) (fun r s1 => match r with
      | none => R (.ok .next) s1
      | some v => wpAny (model prog w) A (letOwnedTupleGo t0 it v) (fun _ s2 => wpAny (model prog w) A (assign t0 env v) (fun _ s3 => wpAny (model prog w) A (eval i1 env) (fun x s4 => wpAny (model prog w) A (pyIter x)
          (fun y s5 => codeAny (model prog w) A (.compStart (scE elt t0 i0 t1 i1 sc pos) 1 y acc env) (fun r s' => match r with
            | .ok _ => ∃ m, m < n ∧ J m s'
            | .error _ => False) s5) (Nb prog w A env R) s4) (Nb prog w A env R) s3) (Nb prog w A env R) s2) (Nb prog w A env R) s1) (Nb prog w A env R) s)
    (n : Nat) (h : J n s) : codeAny (model prog w) A (.compLoop (scE elt t0 i0 t1 i1 sc pos) 0 it acc env) R s := by
  refine codeAny_loop rfl J (fun n s hJ => ?_) n h
  show wpAny _ A ((compTurn (scE elt t0 i0 t1 i1 sc pos) 0 it acc env).onRaise (fun x => do noteFrame x env; theTreesLotGoes x)) _ _ s
  rw [turn_out]
  refine wpAny_noted (wpAny_bind (wpAny_standAt (wpAny_bind (wpAny_mono (turn n s hJ) (fun r s1 q1 => ?_) fun _ _ z => z))))
  cases r with
  | none => exact wpAny_pure q1
  | some v =>
    refine wpAny_bind (wpAny_mono q1 (fun _ s2 q2 => wpAny_bind (wpAny_mono q2 (fun _ s3 q3 => wpAny_bind (wpAny_mono q3 (fun x s4 q4 => ?_) fun _ _ z => z)) fun _ _ z => z)) fun _ _ z => z)
    refine wpAny_bind (wpAny_standAt (wpAny_bind (wpAny_of_eq (hs x) (wpAny_bind (wpAny_holding (wpAny_mono q4 (fun y s5 q5 => ?_) fun _ _ z => z))))))
    refine wpAny_bind (wpAny_runOwn ?_)
    rw [Around.mark_none]
    refine codeAny_mono q5 fun r s' q6 => ?_
    cases r with
    | ok f =>
      first
        | exact wpAny_pure ⟨rfl, q6⟩
        | exact ⟨rfl, q6⟩
        | exact wpAny_bind (wpAny_pure (wpAny_pure ⟨rfl, q6⟩))
    | error e => exact q6.elim
theorem loop_in (J : Nat → Shared → Prop)
    (turn : ∀ n s, J n s → wpAny (model prog w) A (pyNext it) (fun r s1 => match r with
      | none => R (.ok .next) s1
      | some v => wpAny (model prog w) A (letOwnedTupleGo t1 it v) (fun _ s2 => wpAny (model prog w) A (assign t1 env v) (fun _ s3 => wpAny (model prog w) A (eval elt env) (fun x s4 =>
          wpAny (model prog w) A (call (.builtin "set.add") [acc, x]) (fun _ s5 => ∃ m, m < n ∧ J m s5) (Nb prog w A env R) s4) (Nb prog w A env R) s3) (Nb prog w A env R) s2) (Nb prog w A env R) s1) (Nb prog w A env R) s)
    (n : Nat) (h : J n s) : codeAny (model prog w) A (.compLoop (scE elt t0 i0 t1 i1 sc pos) 1 it acc env) R s := by
  refine codeAny_loop rfl J (fun n s hJ => ?_) n h
  show wpAny _ A ((compTurn (scE elt t0 i0 t1 i1 sc pos) 1 it acc env).onRaise (fun x => do noteFrame x env; theTreesLotGoes x)) _ _ s
  rw [turn_in]
  refine wpAny_noted (wpAny_bind (wpAny_standAt (wpAny_bind (wpAny_mono (turn n s hJ) (fun r s1 q1 => ?_) fun _ _ z => z))))
  cases r with
  | none => exact wpAny_pure q1
  | some v =>
    refine wpAny_bind (wpAny_mono q1 (fun _ s2 q2 => wpAny_bind (wpAny_mono q2 (fun _ s3 q3 => ?_) fun _ _ z => z)) fun _ _ z => z)
    refine wpAny_bind (wpAny_bind (wpAny_mono q3 (fun x s4 q4 => wpAny_bind (wpAny_standAt (wpAny_bind (wpAny_mono q4 (fun _ s5 q5 => ?_) fun _ _ z => z)))) fun _ _ z => z))
    first
      | exact wpAny_pure (wpAny_pure ⟨rfl, q5⟩)
      | exact wpAny_pure ⟨rfl, q5⟩
theorem start_in (h0 : codeAny (model prog w) A (.compLoop (scE elt t0 i0 t1 i1 sc pos) 1 it acc env) R s)
    (h : wpAny (model prog w) A (pyIter it) (fun y s' => codeAny (model prog w) A (.compLoop (scE elt t0 i0 t1 i1 sc pos) 1 y acc env) R s') (notedBy (model prog w) A env fun x s' => R (.error x) s') s) :
    codeAny (model prog w) A (.compStart (scE elt t0 i0 t1 i1 sc pos) 1 it acc env) R s := by
  refine codeAny_of_tree ?_
  show wpAny _ _ ((compStart (scE elt t0 i0 t1 i1 sc pos) 1 it acc env).onRaise (fun x => do noteFrame x env; standAt theWindowsPlace)) _ _ s
  refine wpAny_notedAt ?_
  unfold compStart
  show wpAny _ _ (ask >>= _) _ _ s
  refine wpAny_bind (wpAny_askSetting (wpAny_ite ?_))
  split
  · first
      | exact wpAny_pure ⟨rfl, h0⟩
      | exact wpAny_bind (wpAny_pure (wpAny_pure ⟨rfl, h0⟩))
  · refine wpAny_bind (wpAny_rule ?_)
    show wpAny _ _ (standAt i1.pos >>= _) _ _ s
    exact wpAny_bind (wpAny_standAt (wpAny_bind (wpAny_mono h (fun y s' z => wpAny_pure ⟨rfl, z⟩) fun _ _ z => z)))
end
section
variable {X : Cx}
/-- behind the first clause's store the second source's own loop, from which Nx is reached. vs: the block's names; us: those of the second target -/
def tSc2 (w : World) (wi : TI) (g : TG) (wi1 : TI) (g1 : TG) (te : TE) (vs us : List Nat) : TE := fun σ H Q => wi σ H fun J H1 => ∀ D, H1 D = none → ∃ W : Nat → Nat → Hp → Prop, (∃ m, W 0 m (upd H1 D (SetMO w D (fun _ => false) 0))) ∧ ∀ i m H, W i m H →
  (J.stop i H ∧ Q (.ref D) H) ∨ (J.go i H ∧ ∃ Nx : Hp → Prop, (∀ H', Nx H' → ∃ m', m' < m ∧ W (i + 1) m' H') ∧ ∀ x H', J.yld i H x H' → g x (wipe σ vs) H' fun σ2 H2 => wipe σ2 vs = wipe σ vs ∧
    wi1 σ2 H2 fun J1 H4 => ∃ W1 : Nat → Nat → Hp → Prop, (∃ m, W1 0 m H4) ∧ ∀ j k H, W1 j k H →
      (J1.stop j H ∧ Nx H) ∨ (J1.go j H ∧ ∃ Ny : Hp → Prop, (∀ H', Ny H' → ∃ k', k' < k ∧ W1 (j + 1) k' H') ∧ ∀ x H', J1.yld j H x H' → g1 x (wipe σ2 us) H' fun σ3 H5 => wipe σ3 us = wipe σ2 us ∧
        te σ3 H5 fun y H6 => ∃ k S n, y = kV k ∧ H6 D = some (SetMO w D S n) ∧ n + 1 < scanBound ∧ Ny (upd H6 D (SetMO w D (fun j => S j || decide (j = k)) (if S k = true then n else n + 1)))))
theorem sc2_core {pins : List (Addr × Obj)} {s : Shared} {σ : L2.St} {H : Hp} {Q : VK} {elt t0 i0 t1 i1 : Expr} {scope : Scope} {own : List (Str × Nat)} {us : List Nat} {pos pos' : Pos} {wi wi1 : TI} {g g1 : TG} {te : TE} {use : Option (Value → Sem Unit)} {Qf : Value → Shared → Prop}
    (hc : X.calm = true) (hN : X.N.Nodup) (I : Inv X pins σ H s) (hi : PI X t0 i0 wi) (ok : BlkOk X.N X.env.scope scope own) (hv : ∀ i ∈ us, i ∈ own.map (·.2))
    (hg : ∀ (s : Shared) (H : Hp) (C : Addr) (cl : List (Str × Addr)) (fp : List Addr), PG (X.blk s H scope (compEnvC scope cl C X.env) fp) t0 g)
    (hi1 : ∀ (s : Shared) (H : Hp) (C : Addr) (cl : List (Str × Addr)) (fp : List Addr), PI (X.blk s H scope (compEnvC scope cl C X.env) fp) t1 i1 wi1)
    (hg1 : ∀ (s : Shared) (H : Hp) (C : Addr) (cl : List (Str × Addr)) (fp : List Addr), PG (X.blk s H scope (compEnvC scope cl C X.env) fp) t1 g1)
    (he : ∀ (s : Shared) (H : Hp) (C : Addr) (cl : List (Str × Addr)) (fp : List Addr), PE (X.blk s H scope (compEnvC scope cl C X.env) fp) elt te)
    (hs : ∀ x, foldedSetIterable i0 X.env x = pure x) (hs1 : ∀ env x, foldedSetIterable i1 env x = pure x) (h : tSc2 X.w wi g wi1 g1 te (own.map (·.2)) us σ H Q)
    (done : ∀ D C s' m H', Inv X pins σ H' s' → Q (.ref D) H' → s'.heap.Ns C m → FpOk X pins H' C → compPost (model X.prog X.w) X.A X.xe use Qf (.ref D) C (.ok .next) s') :
    wpAny (model X.prog X.w) X.A (comprehension (scE elt t0 i0 t1 i1 scope pos) scope X.env pos' (newSet (.type "set")) false (eval i0 X.env) use) Qf X.xe s := by
  have free : ∀ y ∈ scope.names, y.2 = .free → ∃ c, X.env.cells.lookup y.1 = some c := fun y hy e => (ok.free y hy e).elim (fun k => I.ok.has _ (.inl k)) fun k => I.ok.has _ (.inr k)
  refine wpAny_comprehension_free (use := use) rfl hs (closure_ok free) ok.kind (fun y hy e => by rw [ok.uniq y hy, e]) (thn (hi.run pins s σ H _ I h) fun xv s1 hx => thn hx fun itv s2 h2 => ?_)
  obtain ⟨it, fp, tn, J, H2, e, I2, T, st2, f2, q⟩ := h2
  subst e
  refine PpSet.newSet_ok (newEnv_comp ?_)
  generalize hD : s2.heap.objs.size = D
  have nD : H2 D = none := I2.hok.fresh (Nat.le_of_eq hD)
  obtain ⟨W, ⟨m0, w0⟩, turn⟩ := q D nD
  generalize hE : ({ cls := .type "set", dict := none, data := .set #[] 0 (.fresh 0 0 (!X.w.params.followText "set-order")) } : Obj) = oE
  have fr : SetM X.w (s2.heap.push oE) D (fun _ => false) 0 := by rw [← hE, ← hD]; exact fresh _ _
  generalize hs3 : ({ s2 with heap := s2.heap.push oE } : Shared) = s3
  have h3 : s3.heap = s2.heap.push oE := by rw [← hs3]
  have I3 : Inv X pins σ (upd H2 D (SetMO X.w D (fun _ => false) 0)) s3 := by
    rw [← hs3]
    exact I2.laid (t' := s2.toks) (fun b o e => Heap.get?_push_of_some _ e) (Nat.le_of_eq hD) (setMO_ok fr)
  generalize hH3 : upd H2 D (SetMO X.w D (fun _ => false) 0) = H3 at I3 w0
  have lt : ∀ b ∈ fp, b < s2.heap.objs.size := fun b hb => let ⟨_, e, _⟩ := T.obj _ _ st2 b hb; Heap.lt_size e
  have f3 : ∀ b ∈ fp, FpOk X pins H3 b ∧ b < s3.heap.objs.size := fun b hb => by
    refine ⟨⟨?_, (f2 b hb).2⟩, by rw [h3, Heap.size_push]; exact Nat.lt_succ_of_lt (lt b hb)⟩
    rw [← hH3, upd_ne (by rw [← hD]; exact Nat.ne_of_lt (lt b hb))]
    exact (f2 b hb).1
  have st3 : tn 0 s3.heap := T.keep _ _ _ st2 fun b _ o e => by rw [h3]; exact Heap.get?_push_of_some _ e
  have I4 := block_start I3 ok hN f3
  have G := hg s3 H3 s3.heap.objs.size (cellsFrom (s3.heap.objs.size + 1) scope.names (cloFrom X.env.cells scope.names [])) fp
  have Z := he s3 H3 s3.heap.objs.size (cellsFrom (s3.heap.objs.size + 1) scope.names (cloFrom X.env.cells scope.names [])) fp
  have B := hi1 s3 H3 s3.heap.objs.size (cellsFrom (s3.heap.objs.size + 1) scope.names (cloFrom X.env.cells scope.names [])) fp
  have G1 := hg1 s3 H3 s3.heap.objs.size (cellsFrom (s3.heap.objs.size + 1) scope.names (cloFrom X.env.cells scope.names [])) fp
  show codeAny _ _ (.compStart (scE elt t0 i0 t1 i1 scope pos) 0 (.ref it) (.ref D) (compEnvC scope (cellsFrom (s3.heap.objs.size + 1) scope.names (cloFrom X.env.cells scope.names [])) s3.heap.objs.size X.env)) (compPost (model X.prog X.w) X.A X.xe use Qf (.ref D) s3.heap.objs.size) { s3 with heap := pushCells (s3.heap.push { cls := .type "dict", data := .dict #[] }) scope.names }
  have nf : ∀ b ∈ fp, H3 b = none := fun b hb => (f3 b hb).1.1
  generalize hce : compEnvC scope (cellsFrom (s3.heap.objs.size + 1) scope.names (cloFrom X.env.cells scope.names [])) s3.heap.objs.size X.env = ce at I4 G Z B G1 ⊢
  have cl : ce.locals = s3.heap.objs.size := by subst hce; rfl
  generalize hs4 : ({ s3 with heap := pushCells (s3.heap.push { cls := .type "dict", data := .dict #[] }) scope.names } : Shared) = s4 at I4 ⊢
  have st4 : tn 0 s4.heap := T.keep _ _ _ st3 fun b _ o e => by rw [← hs4]; exact pushCells_keeps _ _ _ _ (Heap.get?_push_of_some _ e)
  have stat : ∀ {σ' : L2.St} {H' : Hp} {s' : Shared}, Inv (X.blk s3 H3 scope ce fp) [] σ' H' s' → (∀ b ∈ fp, H' b = none) → ∀ b ∈ fp, FpOk (X.blk s3 H3 scope ce fp) [] H' b := fun I' z b hb =>
    ⟨z b hb, (I'.ok.exf b hb).1, I'.ok.exfs b hb, .inl hb, fun x c e => (I'.ok.exf b hb).2 x c e, fun p hp => absurd (show p ∈ ([] : List (Addr × Obj)) ++ [] from hp) (by simp)⟩
  refine PpSet.codeAny_compStart_set ?main (T.self X.A 0 _ _ _ st4 ?main)
  refine loop_out (hs1 ce) (fun n s' => ∃ i H', Inv (X.blk s3 H3 scope ce fp) [] (wipe σ (own.map (·.2))) H' s' ∧ tn i s'.heap ∧ (∀ b ∈ fp, H' b = none) ∧ W i n H') ?_ m0 ⟨0, H3, I4, st4, nf, w0⟩
  rintro n s5 ⟨i, H5, I5, st5, n5, w5⟩
  rcases turn i n H5 w5 with ⟨stop, qq⟩ | ⟨go, Nx, hNx, step⟩
  · refine thnF (T.done (X.blk s3 H3 scope ce fp) rfl rfl rfl hc i [] s5 _ H5 (fun _ _ => False) I5 (stat I5 n5) st5 stop) fun r s6 ⟨hr, I6⟩ => ?_
    subst hr
    have I7 : Inv X pins σ H5 s6 := I3.call' (ch := fp) I6.os I6.base I6.hok I6.bare fun b hb => ⟨(f3 b hb).1.2.2.2.1, (f3 b hb).1.2.1, (f3 b hb).1.2.2.2.2.1, (f3 b hb).1.2.2.2.2.2⟩
    have nC : H5 ce.locals = none := I6.free
    obtain ⟨m, hn, _⟩ := I6.loc
    have hn : s6.heap.Ns ce.locals m := hn
    rw [cl] at hn nC
    exact done D s3.heap.objs.size s6 m H5 I7 qq hn (I3.fpOk (Nat.le_refl _) nC)
  · refine thnF (T.item (X.blk s3 H3 scope ce fp) rfl rfl rfl hc i [] s5 _ H5 (fun _ _ => False) I5 (stat I5 n5) st5 go) fun r s6 ⟨u, hr, h6⟩ => ?_
    subst hr
    refine thnF h6 fun _ s7 ⟨x, H7, I7, r7, y7, st7, n7⟩ => ?_
    have I7' := I7.pinned (stat I7 n7) (T.obj _ _ st7)
    refine thnF (G.run _ s7 _ H7 x u _ I7' r7 (step x H7 y7)) fun _ s8 ⟨σ8, H8, I8, hw8, q8⟩ => ?_
    have len8 : (wipe σ (own.map (·.2))).length = σ8.length := by rw [← hw8, wipe_length]
    -- the next turn
    have next : ∀ {s' : Shared} {H' : Hp}, Inv (X.blk s3 H3 scope ce fp) ([] ++ pinsAt fp s7.heap) (wipe σ8 us) H' s' → Nx H' → ∃ m, m < n ∧ ∃ i H', Inv (X.blk s3 H3 scope ce fp) [] (wipe σ (own.map (·.2))) H' s' ∧ tn i s'.heap ∧ (∀ b ∈ fp, H' b = none) ∧ W i m H' := fun {s' H'} I' nx => by
      obtain ⟨m', lm, w'⟩ := hNx H' nx
      have pin : ∀ b ∈ fp, ∀ o, s7.heap.get? b = some o → s'.heap.get? b = some o ∧ H' b = none := fun b hb o e =>
        let z := I'.pin (b, o) (List.mem_append_right _ (List.mem_append_right _ (mem_pinsAt hb e)))
        ⟨z.1, z.2.1⟩
      refine ⟨m', lm, i + 1, H', (I'.unpinned (pins := [])).weak (len8.trans (wipe_length σ8 us).symm) (fun j v e => ?_), T.keep _ _ _ st7 fun b hb o e => (pin b hb o e).1, fun b hb => ?_, w'⟩
      · rw [← hw8] at e
        obtain ⟨e1, e2⟩ := wipe_some e
        rw [wipe_out fun z => e2 (hv j z)]
        exact e1
      · obtain ⟨o, e, _⟩ := T.obj _ _ st7 b hb
        exact (pin b hb o e).2
    refine thnF (B.run _ s8 σ8 H8 _ I8 q8) fun xv s10 hx => thnF hx fun itv s11 h11 => ?_
    obtain ⟨it1, fp1, tn1, J1, H11, e1, I11, T1, st11, f11, W1, ⟨m1, w1⟩, turn1⟩ := h11
    subst e1
    have stat1 : ∀ {H' : Hp}, (∀ b ∈ fp1, H' b = none) → ∀ b ∈ fp1, FpOk (X.blk s3 H3 scope ce fp) ([] ++ pinsAt fp s7.heap) H' b := fun z b hb => ⟨z b hb, (f11 b hb).2⟩
    refine start_in ?inner (T1.self X.A 0 _ _ _ st11 ?inner)
    refine loop_in (fun k s' => ∃ j H', Inv (X.blk s3 H3 scope ce fp) ([] ++ pinsAt fp s7.heap) (wipe σ8 us) H' s' ∧ tn1 j s'.heap ∧ (∀ b ∈ fp1, H' b = none) ∧ W1 j k H') ?_ m1 ⟨0, H11, I11.weak (wipe_length _ _) (fun j v e => (wipe_some e).1), st11, fun b hb => (f11 b hb).1, w1⟩
    rintro k s12 ⟨j, H12, I12, st12, n12, w12⟩
    rcases turn1 j k H12 w12 with ⟨stop1, nx1⟩ | ⟨go1, Ny, hNy, step1⟩
    · refine thnF (T1.done (X.blk s3 H3 scope ce fp) rfl rfl rfl hc j _ s12 (wipe σ8 us) H12 (fun _ _ => False) I12 (stat1 n12) st12 stop1) fun r s13 ⟨hr, I13⟩ => ?_
      subst hr
      exact next I13 nx1
    · refine thnF (T1.item (X.blk s3 H3 scope ce fp) rfl rfl rfl hc j _ s12 (wipe σ8 us) H12 (fun _ _ => False) I12 (stat1 n12) st12 go1) fun r s13 ⟨u1, hr, h13⟩ => ?_
      subst hr
      refine thnF h13 fun _ s14 ⟨x1, H14, I14, r14, y14, st14, n14⟩ => ?_
      have I14' := I14.pinned (stat1 n14) (T1.obj _ _ st14)
      refine thnF (G1.run _ s14 (wipe σ8 us) H14 x1 u1 _ I14' r14 (step1 x1 H14 y14)) fun _ s15 ⟨σ15, H15, I15, hw15, q15⟩ => ?_
      refine thnF (Z.run _ s15 σ15 H15 _ I15 q15) fun z s17 ⟨yv, H17, I17, r17, ky, S, c, ey, hS, room, nx⟩ => ?_
      subst ey
      refine add_ok (X := X.blk s3 H3 scope ce fp) I17 hS r17 room fun s18 I18 => ?_
      obtain ⟨m', lm, w'⟩ := hNy _ nx
      have pin : ∀ b ∈ fp1, ∀ o, s14.heap.get? b = some o → s18.heap.get? b = some o ∧ _ = none := fun b hb o e =>
        let z := I18.pin (b, o) (List.mem_append_right _ (List.mem_append_right _ (mem_pinsAt hb e)))
        ⟨z.1, z.2.1⟩
      refine ⟨m', lm, j + 1, _, I18.unpinned.weak (by rw [← hw15, wipe_length]) (fun j v e => by rw [← hw15] at e; exact (wipe_some e).1), T1.keep _ _ _ st14 fun b hb o e => (pin b hb o e).1, fun b hb => ?_, w'⟩
      obtain ⟨o, e, _⟩ := T1.obj _ _ st14 b hb
      exact (pin b hb o e).2
/-- as a value -/
theorem pe_sc2 {elt t0 i0 t1 i1 : Expr} {scope : Scope} {own : List (Str × Nat)} {us : List Nat} {pos : Pos} {wi wi1 : TI} {g g1 : TG} {te : TE} (hc : X.calm = true) (hN : X.N.Nodup) (hi : PI X t0 i0 wi) (ok : BlkOk X.N X.env.scope scope own) (hv : ∀ i ∈ us, i ∈ own.map (·.2))
    (hg : ∀ (s : Shared) (H : Hp) (C : Addr) (cl : List (Str × Addr)) (fp : List Addr), PG (X.blk s H scope (compEnvC scope cl C X.env) fp) t0 g)
    (hi1 : ∀ (s : Shared) (H : Hp) (C : Addr) (cl : List (Str × Addr)) (fp : List Addr), PI (X.blk s H scope (compEnvC scope cl C X.env) fp) t1 i1 wi1)
    (hg1 : ∀ (s : Shared) (H : Hp) (C : Addr) (cl : List (Str × Addr)) (fp : List Addr), PG (X.blk s H scope (compEnvC scope cl C X.env) fp) t1 g1)
    (he : ∀ (s : Shared) (H : Hp) (C : Addr) (cl : List (Str × Addr)) (fp : List Addr), PE (X.blk s H scope (compEnvC scope cl C X.env) fp) elt te)
    (hs : ∀ x, foldedSetIterable i0 X.env x = pure x := by intro _; rfl) (hs1 : ∀ env x, foldedSetIterable i1 env x = pure x := by intro _ _; rfl) :
    PE X (scE elt t0 i0 t1 i1 scope pos) (tSc2 X.w wi g wi1 g1 te (own.map (·.2)) us) := by
  refine ⟨fun pins s σ H Q I h => ?_⟩
  rw [PpSet.eval_SetComp]
  refine sc2_core hc hN I hi ok hv hg hi1 hg1 he hs hs1 h fun D C s' m H' I' q hn f => ⟨m, hn, fun h'' sb => ?_⟩
  obtain ⟨f0, f1, f2, f3, f4, f5⟩ := f
  exact ⟨.ref D, H', I'.turned (t' := s'.toks) (fun b o hb e => (sb.2 b hb).trans e) f0 f1 f3 f4 f5, rfl, q⟩
end
end K2S

set_option Elab.async false
set_option linter.all false
set_option maxRecDepth 100000
set_option maxHeartbeats 4000000
/-! sorted of a set of texts: each once. Speaks of no program. -/
namespace K2P
open PySem PySem.Spec PyProof.Rows L2 K1D K2S
open PySem.W (EachIs Sortable AllAlike dataLe)
def txtI (ys : List Str) : List NestedKey := ys.map NestedKey.text
theorem text_al (x y : Str) : PySem.W.alike (NestedKey.text x).data (NestedKey.text y).data = true := by simp [NestedKey.data, PySem.W.alike]
/-- a set's members, sorted -/
def rSortSet (w : World) : List V → Hp → VK → Prop := fun vs H Q => ∃ (a : Addr) (S : Key → Bool) (n : Nat), vs = [V.ref a] ∧ H a = some (SetMO w a S n) ∧ (∀ k, S k = true → ∃ x, k = .inr x) ∧
  ∀ (ys : List Str) (p : Addr), ys.Nodup → (∀ x, x ∈ ys ↔ S (.inr x) = true) → ys.length = n → H p = none → Q (.ref p) (upd H p (.lst (ys.map V.str)))
theorem txt_values {w : World} : ∀ {us : List Value}, (∀ u ∈ us, ∃ x t, u = Value.str x t) → ∃ ys : List Str, EachIs (fun v x => ∃ t, v = Value.str x t) us ys ∧ ys.map Sum.inr = us.map kyV
  | [], _ => ⟨[], .nil, rfl⟩
  | u :: us, h => by
    obtain ⟨ys, h1, h2⟩ := txt_values (w := w) (us := us) fun v hv => h v (List.mem_cons_of_mem _ hv)
    obtain ⟨x, t, rfl⟩ := h u (List.mem_cons_self ..)
    exact ⟨x :: ys, .cons ⟨t, rfl⟩ h1, by rw [List.map_cons, List.map_cons, h2]; rfl⟩
theorem each_texts : ∀ {us : List Value} {ys : List Str}, EachIs (fun v x => ∃ t, v = Value.str x t) us ys → Vals (ys.map V.str) us
  | _, _, .nil => .nil
  | _, _, .cons ⟨t, e⟩ r => .cons ⟨t, e⟩ (each_texts r)
theorem cr_sortSet {X : Cx} (hc : X.calm = true) (hu : X.A.units + 64 < cLine) : CallR X (.builtin "sorted") (rSortSet X.w) := by
  intro pins s σ H vs us Q I r h
  obtain ⟨a, S, n, rfl, ha, tx, q⟩ := h
  obtain ⟨o, es, ep, t, ⟨ho, hx, hd⟩, R, W, en⟩ := setMO_get I ha
  rw [Vals.ref1 r]
  refine Calls.call_function_entry kind_sorted plain_sorted entry_sorted (args_sorted1 _) ?_
  unfold Builtin.«sorted»
  refine wpAny_bind (m := checkCount "sorted" 1 1 _) (wpAny_pure ?_)
  refine wpAny_bind (collect_set (A := X.A.in1) (I.ok.hd hc) ⟨o, ho, hx.1, hd⟩ W.fit W.few W.ris W.led fun s1 out k1 z1 g1 o1 pm => ?_)
  have lo : out.length = n := by rw [pm.length_eq, List.length_map, Array.length_toList]; exact en
  have txt : ∀ u ∈ out, ∃ x t, u = Value.str x t := fun u hu => by
    obtain ⟨e, he, rfl⟩ := List.mem_map.mp (pm.mem_iff.mp hu)
    obtain ⟨x, hk⟩ := tx _ ((R.mem _).2 (List.mem_map.mpr ⟨e, he, rfl⟩))
    have := (R.ok e he).1
    rw [hk] at this
    obtain ⟨t, e'⟩ := this
    exact ⟨x, t, e'⟩
  obtain ⟨ys, ey, ky⟩ := txt_values (w := X.w) txt
  have ly : ys.length = n := ey.length.symm.trans lo
  have small : n ≤ sizeLine := by rw [← en]; exact fits_of_scanBound W.few
  have pk : (ys.map (Sum.inr : Str → Key)).Perm (es.toList.map fun e => kyV e.2) := by
    rw [ky]
    have := pm.map kyV
    rw [List.map_map] at this
    exact this
  have nd : ys.Nodup := (pk.nodup_iff.mpr R.nd).of_map (f := Sum.inr) (fun _ _ hne e => hne (by rw [e]))
  refine wpAny_bind (wpAny_newList ?_ (by rw [lo]; exact small))
  have hoL : (s1.heap.push (seqObj "list" out.toArray 0)).get? s1.heap.objs.size = some (seqObj "list" out.toArray 0) := Heap.get?_push_size _ rfl
  have er : EachIs (fun v b => ∃ as, Reads (s1.heap.push (seqObj "list" out.toArray 0)) v ((fun x => (NestedKey.text x).data) b) as ∧ s1.heap.objs.size ∉ as) out ys := ey.mono fun v x ⟨t, e⟩ => ⟨[], by rw [e]; exact Reads.str x t, by simp⟩
  have all : AllAlike (ys.map fun x => (NestedKey.text x).data) := by
    intro d1 h1 d2 h2
    obtain ⟨y1, m1, rfl⟩ := List.mem_map.mp h1
    obtain ⟨y2, m2, rfl⟩ := List.mem_map.mp h2
    exact text_al y1 y2
  refine wpAny_bind (wpAny_holding (PySem.W.list_sort_data (s := { s1 with heap := s1.heap.push (seqObj "list" out.toArray 0) }) hoL ey er all (Sortable.others (bs := ys) (enc := fun x => (NestedKey.text x).data) fun y => ⟨(fun z => nomatch z), (fun xs z => nomatch z)⟩) (by rw [ly]; exact small) (fun b hb => ?_) fun out' ol oe => ?_))
  · show X.A.in1.units + 1 + PyData.depth (.str b) < cLine
    rw [Around.in1_units]
    simp only [PyData.depth]
    omega
  · obtain ⟨c, hc'⟩ := sortedHeap_at (vs := out) (out := out'.toArray) hoL
    refine wpAny_pure ⟨_, rfl, ?_⟩
    have keep : ∀ b u, s.heap.get? b = some u → (sortedHeap (s1.heap.push (seqObj "list" out.toArray 0)) s1.heap.objs.size out out'.toArray).get? b = some u := fun b u e => by
      have z := k1 b u e
      have lt := Heap.lt_size z
      rw [sortedHeap_old (Nat.ne_of_lt lt) (by rw [size_push']; exact Nat.lt_succ_of_lt lt)]
      exact Heap.get?_push_of_some _ z
    have nP : H s1.heap.objs.size = none := I.hok.fresh z1
    have ls : ((ys.mergeSort (dataLe false fun x => (NestedKey.text x).data)).map V.str).length ≤ sizeLine := by rw [List.length_map, List.length_mergeSort, ly]; exact small
    have J : Inv X pins σ (upd H s1.heap.objs.size (.lst ((ys.mergeSort (dataLe false fun x => (NestedKey.text x).data)).map V.str))) { s with heap := sortedHeap (s1.heap.push (seqObj "list" out.toArray 0)) s1.heap.objs.size out out'.toArray, gens := s1.gens, drawn := s1.drawn, toks := s1.toks } :=
      I.call (ch := []) (Un.laid keep z1 nP) (I.hok.laid keep z1 ⟨ls, out', c, each_texts oe, by rw [hc']⟩) (by show AllBare s1.gens; rw [g1]; exact I.bare) (fun _ z => nomatch z)
    have es1 : ({ s1 with heap := sortedHeap (s1.heap.push (seqObj "list" out.toArray 0)) s1.heap.objs.size out out'.toArray } : Shared) = { s with heap := sortedHeap (s1.heap.push (seqObj "list" out.toArray 0)) s1.heap.objs.size out out'.toArray, gens := s1.gens, drawn := s1.drawn, toks := s1.toks } := by
      cases s1
      cases s
      cases o1
      rfl
    show EP X pins σ Q (.ref s1.heap.objs.size) { s1 with heap := sortedHeap (s1.heap.push (seqObj "list" out.toArray 0)) s1.heap.objs.size out out'.toArray }
    rw [es1]
    refine ⟨.ref s1.heap.objs.size, _, J, rfl, q _ _ ((List.mergeSort_perm _ _).nodup_iff.mpr nd) (fun x => ?_) (by rw [List.length_mergeSort]; exact ly) nP⟩
    rw [(List.mergeSort_perm _ _).mem_iff, R.mem, ← pk.mem_iff, List.mem_map]
    exact ⟨fun z => ⟨x, z, rfl⟩, fun ⟨y, hy, e⟩ => by rw [← Sum.inr.inj e]; exact hy⟩
end K2P

set_option Elab.async false
set_option linter.all false
set_option maxRecDepth 100000
set_option maxHeartbeats 4000000
/-! sorted(names, key=lambda name: name[::-1]). Speaks of no program. -/
namespace K2L
open PySem PySem.Spec PyProof.Rows L2 LamX
open PySem.W (EachIs Sortable AllAlike dataLe)
/-- x[::-1] -/
abbrev revE (x : Str) (j : Nat) (p1 p2 p3 p4 p5 : Pos) : Expr := .Subscript (.Name x p1) (.Slice none none (some (.UnaryOp .USub (.Constant (.int 1) j p2) p3)) p4) p5
section
variable {prog : Program} {w : World} {A : Around} {s : Shared}
/-- the body, evaluated where x stands among the local names -/
theorem rev_body {E : Value → Shared → Prop} {env : Env} {x z : Str} {j : Nat} {t : Tok} {p1 p2 p3 p4 p5 : Pos} {m : Str → Option Value} (hk : env.scope.kind = .function) (hl : env.scope.names.lookup x = some .local) (hn : s.heap.Ns env.locals m) (hm : m x = some (.str z t)) (hz : z.length ≤ sizeLine)
    (hd : (x == ("__debug__" : Str)) = false) {Q : Value → Shared → Prop} (go : ∀ (y : Str) (t' : Tok) (h' : Heap) (tk : Nat), y = Txt.sliceBy z none none (-1, t') → (∀ b o, s.heap.get? b = some o → h'.get? b = some o) → ∀ u, Q (.str y u) { s with heap := h', toks := tk }) :
    wpAny (model prog w) A (eval (revE x j p1 p2 p3 p4 p5) env) Q E s := by
  refine Subscript_ (wpAny_Name (wpAny_loadName_local hk hl hn hm ?_) hd)
  refine wpAny_Slice (wpAny_pure (wpAny_pure ?_))
  show wpAny _ _ (evalPart (some (.UnaryOp .USub (.Constant (.int 1) j p2) p3)) env) _ _ s
  refine UnaryOp_ (wpAny_Constant_int (PyProof.Rows.neg_int ?_))
  refine tail_of_ItemOn ⟨"str", _, F.slot_str_getitem.lookup, typeIs_str _ _ _, wpAny_getItem_str_slice (l := none) (u := none) (st := some (-1, s.toks + 1)) ⟨_, Heap.get?_push_size _ rfl, rfl, rfl⟩ (by rfl)
    (post_val_or_str ⟨Nat.le_trans (Txt.sliceBy_le z _ _ (-1, _) (by show (-1 : Int) ≠ 0; decide)) hz, fun u c => ?_⟩)⟩ (by with_unfolding_all rfl) (by intro _; with_unfolding_all rfl)
  exact go _ _ _ _ rfl (fun b o e => Heap.get?_push_of_some _ e) u
/-- a text turned round, as the slice tells it -/
def revT (z : Str) : Str := Txt.sliceBy z none none (-1, 0)
theorem revT_eq (z : Str) (t : Tok) : Txt.sliceBy z none none (-1, t) = revT z := by
  unfold revT Txt.sliceBy
  rfl
/-- the lambda, called on a text -/
theorem rev_call {x q : Str} {j : Nat} {p1 p2 p3 p4 p5 : Pos} {params : Arguments} {scope : Scope} {pm ctv : Value} {c' f : Addr} {cl : List (Str × Addr)} {z : Str} {t : Tok} (room : A.depth < recursionLimit) (lim : s.heap.NoLimit)
    (hf : s.heap.get? f = some (PySem.W.kla_obj "<lambda>" q params (revE x j p1 p2 p3 p4 p5) scope cl pm c' ctv)) (hc : s.heap.CodeRec (.ref c') q) (co : scope.isCoroutine = false) (ge : scope.isGenerator = false) (hk : scope.kind = .function)
    (hcell : ∀ y ∈ scope.names, y.2 ≠ .cell) (hl : scope.names.lookup x = some .local) (hd : (x == ("__debug__" : Str)) = false) (hz : z.length ≤ sizeLine)
    (hb : bindArgs (PySem.W.kla_fn "<lambda>" q params (revE x j p1 p2 p3 p4 p5) scope cl pm (.ref c') ctv) ⟨[.str z t], []⟩ = pure [(x, .str z t)]) :
    wpAny (model prog w) A (call (.ref f) [.str z t]) (PySem.W.KeyPure (.str (revT z)) s) (fun _ _ => False) s := by
  refine wpAny_call (codeAny_mono (R := fun r s' => ∃ v, r = .ok (.ret v) ∧ PySem.W.KeyPure (.str (revT z)) s v s') ?_ fun r s' hr => ?_)
  · refine PySem.W.kla_callFunE room hf rfl co ge rfl hc ?_
    rw [hb]
    refine wpAny_pure (wpAny_newFunctionEnv hcell (fun y hy => ?_) (fun h₁ hns hsb => ⟨lim.fresh _ hsb, ?_⟩) hk)
    · rw [List.mem_singleton.mp hy]
      exact hl
    · have kp : ∀ b o, s.heap.get? b = some o → h₁.get? b = some o := fun b o e => hsb.extBut b o (Nat.ne_of_lt (Heap.lt_size e)) (Heap.get?_push_of_some _ e)
      refine PySem.W.kla_codeExpr ?_
      refine rev_body (t := t) (m := fun y => ([(x, Value.str z t)] : List (Str × Value)).reverse.lookup y) hk hl hns ?_ hz hd fun y t' h' tk ey kh u => ?_
      · simp
      · refine ⟨_, rfl, h', tk, rfl, fun b o e => kh b o (kp b o e), ?_⟩
        rw [ey, revT_eq]
        exact Reads.str _ _
  · obtain ⟨v, rfl, hv⟩ := hr
    exact hv
end
/-- sorted(e, key=lambda x: x[::-1]) -/
def tSortRev (K : PySem.W.Frag) (T : List (Addr × Str)) (te : TE) : TE := fun σ H Q => te σ H fun v H1 => ∃ (a : Addr) (ns : List Str), v = .ref a ∧ H1 a = some (.lst (ns.map V.str)) ∧ (∀ x ∈ ns, x.length ≤ sizeLine) ∧ Tabs T H1 ∧
  ∀ (ys : List Str) (p : Addr) (H2 : Hp), ExtN H1 H2 → Tabs T H2 → ys.Perm ns → H2 p = none → Q (.ref p) (upd H2 p (.lst (ys.map V.str)))
theorem perm_vals {ns ys : List Str} {us : List Value} (p : ys.Perm ns) (e : EachIs (fun v x => ∃ t, v = Value.str x t) us ys) : Vals (ys.map V.str) us := by
  clear p
  induction e with
  | nil => exact .nil
  | cons h t ih => exact .cons h ih
theorem each_strs : ∀ {ns : List Str} {us : List Value}, Vals (ns.map V.str) us → EachIs (fun v x => ∃ t, v = Value.str x t) us ns
  | [], _, h => by cases h; exact .nil
  | x :: ns, _, h => by
    cases h with
    | cons h1 h2 => exact .cons h1 (each_strs h2)
theorem pe_sortRev {X : Cx} {T : List (Addr × Str)} {c P : Addr} {x : Str} {j : Nat} {p p1 p2 p3 p4 p5 lpos kpos pos : Pos} {e : Expr} {te : TE} {params : Arguments} {scope : Scope} (hu : X.A.units + 64 < cLine) (room : X.A.in1.in1.depth < recursionLimit) (he : PE X e te)
    (hg : Gl X "sorted") (hm : X.mg "sorted" = none) (TB : LamX.TabB X.base X.mg c P) (hcode : X.env.code = .ref c) (hT : (P, X.env.qual ++ "<lambda>") ∈ T) (hU : ∀ r ∈ T, r.1 = P → r.2 = X.env.qual ++ "<lambda>") (hdef : defaultsOf params X.env = ([], []))
    (co : scope.isCoroutine = false) (ge : scope.isGenerator = false) (hk : scope.kind = .function) (hcell : ∀ y ∈ scope.names, y.2 ≠ .cell ∧ y.2 ≠ .free) (hl_ : scope.names.lookup x = some .local) (hd : (x == ("__debug__" : Str)) = false)
    (hb : ∀ (q : Str) (cl : List (Str × Addr)) (pm cv ctv u : Value), bindArgs (PySem.W.kla_fn "<lambda>" q params (revE x j p1 p2 p3 p4 p5) scope cl pm cv ctv) ⟨[u], []⟩ = pure [(x, u)])
    (hs0 : starEach [e] X.env = (false, eval e X.env) :: starEach [] X.env := by rfl) (hs1 : backTo pos (starEach [e] X.env) = (false, eval e X.env) :: backTo pos (starEach [] X.env) := by rfl) (hs2 : (backTo pos (starEach [e] X.env)).any (·.1) = false := by rfl) :
    PE X (.Call (.Name "sorted" p) [e] [⟨some "key", .Lambda params (revE x j p1 p2 p3 p4 p5) scope lpos, kpos⟩] pos) (tSortRev X.K T te) := by
  refine ⟨fun pins s σ H Q I h => ?_⟩
  refine wpAny_Call_Name_kw (ld_blt I hg hm (show bootBuiltins ("sorted" : Str) = some (.builtin "sorted") by decide +kernel) ?_ (by decide) (by decide))
  refine PyProof.Rows.callWith_kw (thn ((pa_cons he pa_nil hs0).run pos pins s σ H (fun vs H1 => match vs with
    | [v] => ∃ (a : Addr) (ns : List Str), v = .ref a ∧ H1 a = some (.lst (ns.map V.str)) ∧ (∀ x ∈ ns, x.length ≤ sizeLine) ∧ Tabs T H1 ∧ ∀ (ys : List Str) (p : Addr) (H2 : Hp), ExtN H1 H2 → Tabs T H2 → ys.Perm ns → H2 p = none → Q (.ref p) (upd H2 p (.lst (ys.map V.str)))
    | _ => False) I h) fun us s1 ⟨vs, H1, I1, r1, q1⟩ => ?_) hs1 hs2 (by rfl) (by rfl)
  match vs, q1 with
  | [v], ⟨a, ns, ev, hL, hz, hTb, go⟩ =>
    subst ev
    rw [Vals.ref1 r1]
    show wpAny _ _ (evalAll ((do let v ← eval (.Lambda params (revE x j p1 p2 p3 p4 p5) scope lpos) X.env; standAt pos; pure v) :: [])) _ _ s1
    have hfree : ∀ y ∈ scope.names, y.2 = .free → ∃ c, X.env.cells.lookup y.1 = some c := fun y hy e => absurd e (hcell y hy).2
    refine wpAny_evalAll_cons (wpAny_bind (lam_make2 I1 TB hcode hT hU hTb hdef hfree fun f c' pm ctv H2 s2 I2 eN T2 hf hfn hfr hco => wpAny_bind (wpAny_standAt (wpAny_pure (wpAny_evalAll_nil ?_)))))
    have hL2 : H2 a = some (.lst (ns.map V.str)) := eN _ _ hL fun ps z => by cases z
    obtain ⟨its, rv, hl, hzz⟩ := I2.list (SqL.of hL2)
    show wpAny _ _ (call (.builtin "sorted") [.ref a] [(Str.ofString "key", .ref f)]) _ _ s2
    have lens : ns.length ≤ sizeLine := by rw [List.length_map] at hzz; exact hzz
    have er := each_strs rv
    obtain ⟨⟨oc, ovs, tq, hoc, hdc, hvc⟩, _, _⟩ := I2.hok c' _ hco
    refine PySem.W.sorted_key_data (fun x : Str => PyData.str (revT x)) hl.isList er ?_ ?_ lens (fun y hy => ?_) (PyProof.Rows.ksk_s1 _ _) (fun y => PyProof.Rows.ksk_l1 _ _) (fun y => PyProof.Rows.ksk_t1 _ _) (fun v y hv hy h0 tk kp => ?_) fun out cN h' tk kp nN hN lN eN2 => ?_
    · intro d1 h1 d2 h2
      obtain ⟨y1, _, rfl⟩ := List.mem_map.mp h1
      obtain ⟨y2, _, rfl⟩ := List.mem_map.mp h2
      simp only [PySem.W.alike]
    · exact Sortable.others fun y => ⟨fun z => (nomatch z), fun xs z => (nomatch z)⟩
    · have : (PyData.str (revT y)).depth = 0 := rfl
      omega
    · obtain ⟨tv, rfl⟩ := hv
      refine rev_call room ?_ (kp _ _ hf) ⟨c', oc, ovs, tq, rfl, kp _ _ hoc, hdc, hvc⟩ co ge hk (fun y hy => (hcell y hy).1) hl_ hd (hz y hy) (hb _ _ _ _ _ _)
      exact I2.nolimit.keeps fun b o e => kp b o e
    · have rvo := perm_vals (List.mergeSort_perm ns _) eN2
      have lo : (ns.mergeSort (dataLe false fun x : Str => PyData.str (revT x))).length = ns.length := (List.mergeSort_perm _ _).length_eq
      have nH : H2 (s2.heap.objs.size + 1) = none := I2.hok.fresh (Nat.le_succ _)
      refine ⟨.ref _, upd H2 (s2.heap.objs.size + 1) (.lst ((ns.mergeSort (dataLe false fun x : Str => PyData.str (revT x))).map V.str)), I2.laid (t' := tk) kp (Nat.le_succ _) ⟨by rw [List.length_map, lo]; exact lens, out, cN, rvo, hN⟩, rfl, go _ _ H2 eN T2 (List.mergeSort_perm _ _) nH⟩
end K2L

set_option Elab.async false
set_option linter.all false
set_option maxRecDepth 100000
set_option maxHeartbeats 8000000
set_option autoImplicit false
set_option pp.maxSteps 900
/-! figurehold.replacing: roomy_fields. -/
namespace K2P
open PySem L2 K1D K2S
open LamX (Tabs ExtN TabB)
abbrev sRoomy : Stmt := top 18
/-- a fresh dict, held still -/
def tFrz (t : TE) : TE := fun σ H Q => t σ H fun x H1 => ∃ d u, x = .ref d ∧ H1 d = some u ∧ Mut (some u) ∧ ∀ od, Q x (upd H1 d (.frz od u))
theorem pe_frz {X : Cx} {e : Expr} {t : TE} (h : PE X e t) : PE X e (tFrz t) := ⟨fun pn s σ H Q I hw => thn (h.run pn s σ H _ I hw) fun v s1 ⟨x, H1, I1, r, d, u, ex, hd, mu, q⟩ => by
  obtain ⟨od, I2⟩ := I1.lock hd mu
  exact ⟨x, _, I2, r, q od⟩⟩
/-- a def whose code object is known by its place -/
structure FunC (K : PySem.W.Frag) (x qual : Str) (st : Stmt) (f : Addr) (fd : FuncData) (c : Addr) : Prop where
  ex : ∃ (oc : Value) (od : Option Addr) (kV doc pm : Value) (an : Option Addr) (ct : Value) (osl : Array (Option Value)),
    fd = PySem.W.fnOf x qual (defArgs st) (defBody st) (defScope st) .none kV doc pm an (.ref c) ct ∧ K.lookup f = some ⟨oc, od, .func fd, osl⟩ ∧ PySem.W.codeIn K (.ref c) qual = true
section
variable {P : Program} {w : World} {K : PySem.W.Frag} {mg : Str → Option Value} {base : Heap}
theorem FunC.ok {x qual : Str} {st : Stmt} {f c : Addr} {fd : FuncData} {N ps : List Str} {k : Nat} {sp : Sp} (F : FunC K x qual st f fd c) (S : FnScope N ps (defScope st)) (len : ∀ vs H Q E, sp vs H Q E → vs.length = ps.length)
    (hbody : ∀ (A : Around) (outer : List Env) (s : Shared) (H : Hp) (vs : List V) (Q : VK) (E : XK), Room k (A.deeper (PyProof.Rows.envOfC qual (defScope st) s.heap.objs.size f (.ref c))) → sp vs H Q E →
      ∃ t, PSs (cxOf CX0 P w K mg base N qual (defScope st) f (.ref c) A outer s H E).nox (defBody st) t ∧ t { nx := fun _ H' => Q .non H', rt := Q } (start N vs) H) : FnOk P w K mg base CX0 (k + 1) f fd ps sp := by
  obtain ⟨oc, od, kV, doc, pm, an, ct, osl, rfl, lk, hcd⟩ := F.ex
  refine fn_of lk hcd S len fun A outer s H vs Q E hr hsp => ?_
  obtain ⟨t, h, q⟩ := hbody A outer s H vs Q E hr hsp
  exact ⟨t, h.nox, q⟩
end
/-- the code table of roomy_fields's lambda -/
def lamT (Pt : Addr) : List (Addr × Str) := [(Pt, ("roomy_fields" : Str) ++ (".<locals>." : Str) ++ ("<lambda>" : Str))]
def NameIn (ps : List Poly) (x : Str) : Prop := ∃ p ∈ ps, ∃ f ∈ facs p, f.1 = x
theorem nameIn_snoc {ps : List Poly} {p : Poly} {x : Str} : NameIn (ps ++ [p]) x ↔ NameIn ps x ∨ ∃ f ∈ facs p, f.1 = x := by
  constructor
  · rintro ⟨q, hq, h⟩
    rcases List.mem_append.mp hq with h1 | h1
    · exact .inl ⟨q, h1, h⟩
    · rw [List.mem_singleton.mp h1] at h
      exact .inr h
  · rintro (⟨q, hq, h⟩ | h)
    · exact ⟨q, List.mem_append_left _ hq, h⟩
    · exact ⟨p, List.mem_append_right _ (List.mem_singleton.mpr rfl), h⟩
def PolyX (K : PySem.W.Frag) (H : Hp) (p : Poly) (v : V) : Prop := ∃ (a : Addr) (c b : Bool), v = .ref a ∧ PolyC c b K H p a
theorem PolyX.keep {K : PySem.W.Frag} {H G : Hp} {p : Poly} {v : V} (h : PolyX K H p v) (k : Keeps K H G) : PolyX K G p v := by
  obtain ⟨a, c, b, e, h⟩ := h
  exact ⟨a, c, b, e, h.keep k⟩
/-- the members of a set of texts -/
structure SetS (S : Key → Bool) (n : Nat) (ys : List Str) : Prop where
  nd : ys.Nodup
  len : ys.length = n
  mem : ∀ k, S k = true ↔ ∃ x ∈ ys, k = eS x
theorem SetS.nil : SetS (fun _ => false) 0 [] := ⟨List.nodup_nil, rfl, fun k => ⟨fun h => (by cases h), fun ⟨x, h, _⟩ => (by cases h)⟩⟩
theorem SetS.add {S : Key → Bool} {n : Nat} {ys : List Str} (h : SetS S n ys) (x : Str) : ∃ zs, SetS (fun j => S j || decide (j = eS x)) (if S (eS x) = true then n else n + 1) zs ∧ ∀ y, y ∈ zs ↔ y ∈ ys ∨ y = x := by
  by_cases q : S (eS x) = true
  · obtain ⟨y, hy, e⟩ := (h.mem _).mp q
    have e := eS_inj _ _ e
    subst e
    refine ⟨ys, ⟨h.nd, by rw [if_pos q]; exact h.len, fun k => ?_⟩, fun y => ⟨.inl, fun z => z.elim id fun z => by rw [z]; exact hy⟩⟩
    rw [Bool.or_eq_true, decide_eq_true_eq, h.mem]
    exact ⟨fun z => z.elim id fun z => ⟨x, hy, z⟩, .inl⟩
  · refine ⟨ys ++ [x], ⟨?_, by rw [if_neg q, List.length_append, h.len]; rfl, fun k => ?_⟩, fun y => by rw [List.mem_append, List.mem_singleton]⟩
    · refine List.nodup_append.mpr ⟨h.nd, (List.nodup_cons.mpr ⟨(fun z => (nomatch z)), List.nodup_nil⟩), fun a ha b hb e => ?_⟩
      rw [List.mem_singleton.mp hb] at e
      exact q ((h.mem _).mpr ⟨a, ha, by rw [e]⟩)
    · rw [Bool.or_eq_true, decide_eq_true_eq, h.mem]
      constructor
      · rintro (⟨y, hy, e⟩ | e)
        · exact ⟨y, List.mem_append_left _ hy, e⟩
        · exact ⟨x, List.mem_append_right _ (List.mem_singleton.mpr rfl), e⟩
      · rintro ⟨y, hy, e⟩
        rcases List.mem_append.mp hy with z | z
        · exact .inl ⟨y, z, e⟩
        · rw [List.mem_singleton.mp z] at e
          exact .inr e
def oddR (g : Nat) : Nat := (g + 1) ||| 1
theorem oddR_gt (g : Nat) : g < oddR g := Nat.lt_of_lt_of_le (Nat.lt_succ_self g) Nat.left_le_or
theorem oddR_lt {g k : Nat} (h : g + 1 < 2 ^ k) (k0 : 0 < k) : oddR g < 2 ^ k := Nat.or_lt_two_pow h (Nat.one_lt_two_pow (by omega))
theorem orI (g : Nat) : Builtin.bitOr ((g : Int) + 1) 1 = (oddR g : Int) := by
  rw [bitOr_nn (by omega) (by decide)]
  rfl
/-- what the caller lets be named -/
structure Names (ps : List Poly) (L : List Str) : Prop where
  mem : ∀ x, NameIn ps x → x ∈ L
  few : L.length ≤ 1000
  low : ∀ x ∈ L, x.length ≤ sizeLine
def spRoomy (K : PySem.W.Frag) (C Pt : Addr) : Sp := fun vs H Q _ => ∃ (bo : Bool) (a : Addr) (xs : List V) (ps : List Poly) (L : List Str) (g k : Nat), vs = [.ref a, .int g] ∧ Tabs (lamT Pt) H ∧ SqB bo K H a xs ∧ AllV (PolyX K H) ps xs ∧ Names ps L ∧ (∀ p ∈ ps, (∀ f ∈ facs p, 1 ≤ f.2) ∧ (facs p).length < sizeLine) ∧ g + 1 < 2 ^ k ∧ 0 < k ∧ k ≤ 800 ∧
  ∀ (f : Addr) (ns : List Str) (G : Hp), ExtN H G → Tabs (lamT Pt) G → FieldsAt C G f ns (oddR g) → (∀ x, x ∈ ns ↔ NameIn ps x) → Q (.ref f) G
structure InitTxt (P : Program) (w : World) (K : PySem.W.Frag) (mg : Str → Option Value) (base : Heap) (C fI : Addr) (dI : FuncData) : Prop where
  make : Mk K C fI
  ok : FnOk P w K mg base CX0 1 fI dI ["self", "names", "radix"] (spFInit K C)
  b : Binds K dI ["self", "names", "radix"] []
section
variable {P : Program} {w : World} {K : PySem.W.Frag} {mg : Str → Option Value} {base : Heap} {C : Addr}
theorem scRoomy : FnScope ["polys", "greatest", "names", "p", "name"] ["polys", "greatest"] (defScope sRoomy) := ⟨rfl, rfl, rfl, by decide +kernel, rfl, by decide +kernel, by decide +kernel⟩
theorem ok_roomy {f fI fD cR Pt : Addr} {fd dI dD : FuncData} (F : FunC K "roomy_fields" "roomy_fields" sRoomy f fd cR) (T : FldTxt K mg C) (U : DegsTxt P w K mg base fD dD) (M : InitTxt P w K mg base C fI dI) (TB : TabB base mg cR Pt) : FnOk P w K mg base CX0 3 f fd ["polys", "greatest"] (spRoomy K C Pt) := by
  refine F.ok scRoomy (fun vs H Q E h => ?_) (fun A outer s H vs Q E hr h => ?_)
  · obtain ⟨bo, a, xs, ps, L, g, k, rfl, _⟩ := h
    rfl
  · obtain ⟨bo, a, xs, ps, L, g, k, rfl, tb, hs, hp, nm, ok, gk, k0, k8, go⟩ := h
    refine ⟨_, (pss_cons (ps_set (i := 2) scRoomy.nd rfl (Or.inl rfl) (pe_callB (cr_sortSet rfl hr.units) (by rfl) T.sorted (by decide +kernel) (pa_cons (K2S.pe_sc2 (own := [("p", 3), ("name", 4)]) (us := [4]) (g := gName 3) (wi1 := iKeys (tFrz (tCall (spDeg K) [] E0 (tCons (tVar 3) tNil)))) (g1 := gName 4) (te := tVar 4) rfl scRoomy.nd (pi_seqB bo (pv 0)) (blkOk_by (own := [("p", 3), ("name", 4)]) (N := ["polys", "greatest", "names", "p", "name"]) (sc := defScope sRoomy) (by decide +kernel)) (by decide) (fun _ _ _ _ _ => (pg_name (i := 3) scRoomy.nd rfl (Or.inl rfl))) (fun _ _ _ _ _ => (pi_keys (pe_frz (pe_call U.ok (hr.mono (by decide)) rfl U.g U.k U.b .nil pass0 (pa_cons (pv 3) pa_nil))))) (fun _ _ _ _ _ => (pg_name (i := 4) scRoomy.nd rfl (Or.inl rfl))) (fun _ _ _ _ _ => (pv 4))) pa_nil)))
      (pss_cons (ps_set (i := 2) scRoomy.nd rfl (Or.inl rfl) (K2L.pe_sortRev (T := lamT Pt) hr.units (by have := hr.depth; exact this) (pv 2) (by rfl) T.sorted TB rfl (List.mem_singleton.mpr rfl) (fun r h _ => by rw [List.mem_singleton.mp h]; rfl) rfl rfl rfl rfl (by decide +kernel) rfl (by decide +kernel) (fun _ _ _ _ _ _ => rfl)))
      (pss_one (ps_ret (pe_make M.make M.ok hr rfl T.gC M.b .nil pass0 (pa_cons (pv 2) (pa_cons (pe_op op_or (pe_op op_add (pv 1) pe_int) pe_int) pa_nil))))))), ?_⟩
    refine seqB_go rfl hs (fun D nD => ?_)
    have w0 := walk_seqB (K := K) (a := a) (xs := xs) bo
    have up : ∀ {F : Hp}, Same H F → SqB bo K F a xs := fun s0 => Keeps.same s0 _ _ _ hs
    let W : Nat → Nat → Hp → Prop := fun i m F => m = xs.length - i ∧ i ≤ xs.length ∧ Same H F ∧ ∃ (S : Key → Bool) (n : Nat) (ys : List Str), F D = some (SetMO w D S n) ∧ SetS S n ys ∧ ∀ x, x ∈ ys ↔ NameIn (ps.take i) x
    refine ⟨W, ⟨xs.length, rfl, Nat.zero_le _, same_new nD, _, 0, [], upd_same, .nil, fun x => ⟨fun z => (nomatch z), fun ⟨p, z, _⟩ => (nomatch z)⟩⟩, fun i m F ⟨hm, hi, s0, S, n, ys, hD, ss, hn⟩ => ?_⟩
    by_cases il : i < xs.length
    · refine .inr ⟨w0.goes i F il (up s0), fun F' => W (i + 1) (xs.length - (i + 1)) F', fun F' h => ⟨_, by omega, h⟩, fun x F' hy => ?_⟩
      obtain ⟨e, hv⟩ := w0.yields i F x F' il (up s0) hy
      subst e
      obtain ⟨p, hpp, q, c, b, rfl, hpc⟩ := hp.get hv
      have pm := List.mem_of_getElem? hpp
      refine ⟨rfl, _, rfl, c, b, q, p, rfl, hpc.keep (Keeps.same s0), (ok p pm).1, (ok p pm).2, fun d Dg G s1 nd hd dg => ?_⟩
      refine ⟨d, _, rfl, hd, True.intro, fun od => ⟨d, od, rfl, .inl ⟨_, upd_same, ?_⟩⟩⟩
      have Dd : D ≠ d := fun z => by rw [← z, hD] at nd; cases nd
      have Hd : H d = none := by
        cases z : H d with
        | none => rfl
        | some o => rw [s0 _ _ z] at nd; cases nd
      have s2 : Same H (upd G d (.frz od (.dK (mpT eS Dg)))) := fun b o z => (upd_ne (ne_of_none z Hd)).trans (s1 _ _ (s0 _ _ z))
      refine ⟨fun j k G => k = Dg.length - j ∧ j ≤ Dg.length ∧ Same H G ∧ G d = some (.frz od (.dK (mpT eS Dg))) ∧ ∃ (S : Key → Bool) (n : Nat) (ys : List Str), G D = some (SetMO w D S n) ∧ SetS S n ys ∧ ∀ x, x ∈ ys ↔ NameIn (ps.take i) x ∨ x ∈ (Dg.take j).map (·.1),
        ⟨Dg.length, rfl, Nat.zero_le _, s2, upd_same, S, n, ys, (upd_ne Dd).trans (s1 _ _ hD), ss, fun x => by rw [hn, List.take_zero]; exact ⟨.inl, fun z => z.elim id fun z => (nomatch z)⟩⟩, fun j k G1 ⟨hk, hj, s3, hd3, S1, n1, ys1, hD1, ss1, hn1⟩ => ?_⟩
      by_cases jl : j < Dg.length
      · refine .inr ⟨⟨hd3, by rw [len_mpT]; exact jl⟩, fun G2 => Dg.length - (j + 1) = Dg.length - (j + 1) ∧ j + 1 ≤ Dg.length ∧ Same H G2 ∧ G2 d = some (.frz od (.dK (mpT eS Dg))) ∧ ∃ (S : Key → Bool) (n : Nat) (ys : List Str), G2 D = some (SetMO w D S n) ∧ SetS S n ys ∧ ∀ x, x ∈ ys ↔ NameIn (ps.take i) x ∨ x ∈ (Dg.take (j + 1)).map (·.1), fun G2 h => ⟨_, by omega, h⟩, fun y G2 hy => ?_⟩
        obtain ⟨rfl, kk, v, hkv, rfl⟩ := hy
        obtain ⟨z, hz, rfl, rfl⟩ := at_mpT hkv
        obtain ⟨zs, ss2, hn2⟩ := ss1.add z.1
        have few : n1 ≤ 1000 := by
          rw [← ss1.len]
          refine Nat.le_trans (nodup_sub ss1.nd fun x hx => nm.mem x ?_) nm.few
          rcases (hn1 x).mp hx with h | h
          · obtain ⟨p', hp', r⟩ := h
            exact ⟨p', List.mem_of_mem_take hp', r⟩
          · obtain ⟨f, hf, e⟩ := (dg.keys x).mp (by rw [List.map_take] at h; exact List.mem_of_mem_take h)
            exact ⟨p, pm, f, hf, e⟩
        refine ⟨rfl, _, rfl, eS z.1, S1, n1, rfl, hD1, by show n1 + 1 < 4096; omega, rfl, jl, fun b o q => (upd_ne (ne_of_none q nD)).trans (s3 _ _ q), (upd_ne (Ne.symm Dd)).trans hd3, _, _, zs, upd_same, ss2, fun x => ?_⟩
        rw [hn2, hn1, take_snoc hz, List.map_append, List.mem_append]
        show (_ ∨ _) ∨ _ ↔ _ ∨ _ ∨ x ∈ [z.1]
        rw [List.mem_singleton, or_assoc]
      · refine .inl ⟨⟨hd3, by rw [len_mpT]; omega⟩, rfl, by omega, s3, S1, n1, ys1, hD1, ss1, fun x => ?_⟩
        rw [hn1, take_snoc hpp, nameIn_snoc, show Dg.take j = Dg from List.take_of_length_le (by omega), dg.keys]
    · have ei : i = xs.length := by omega
      refine .inl ⟨by rw [ei]; exact w0.stops F (up s0), ?_⟩
      rw [ei, hp.1, List.take_length] at hn
      refine ⟨D, S, n, rfl, hD, fun k hk => ?_, fun zs l1 zn zm zl n1 => ?_⟩
      · obtain ⟨x, _, e⟩ := (ss.mem k).mp hk
        exact ⟨x, e⟩
      have zi : ∀ x, x ∈ zs ↔ NameIn ps x := fun x => by
        rw [zm, ← hn, ss.mem]
        exact ⟨fun ⟨y, hy, e⟩ => by rw [eS_inj x y e]; exact hy, fun h => ⟨x, h, rfl⟩⟩
      have s4 : Same H (upd F l1 (.lst (zs.map V.str))) := s0.trans (same_new n1)
      have h1 : upd F l1 (.lst (zs.map V.str)) l1 = some (.lst (zs.map V.str)) := upd_same
      generalize upd F l1 (.lst (zs.map V.str)) = G1 at s4 h1 ⊢
      refine ⟨_, rfl, l1, zs, rfl, h1, fun x hx => nm.low x (nm.mem x ((zi x).mp hx)), tb.ext s4, fun us l2 G2 e2 t2 pu n2 => ?_⟩
      have ui : ∀ x, x ∈ us ↔ NameIn ps x := fun x => by rw [pu.mem_iff]; exact zi x
      have s5 : Same G2 (upd G2 l2 (.lst (us.map V.str))) := same_new n2
      have h2 : upd G2 l2 (.lst (us.map V.str)) l2 = some (.lst (us.map V.str)) := upd_same
      have x5 : ExtN H (upd G2 l2 (.lst (us.map V.str))) := (ExtN.of s4).trans (e2.trans (ExtN.of s5))
      have t5 := t2.ext s5
      generalize upd G2 l2 (.lst (us.map V.str)) = G3 at h2 x5 t5 ⊢
      refine ⟨_, rfl, _, rfl, _, _, rfl, rfl, _, _, rfl, rfl, ?_⟩
      intro x dx nx ndx nexd
      have l2x : l2 ≠ x := ne_of_none h2 nx
      have l2d : l2 ≠ dx := ne_of_none h2 ndx
      refine ⟨x, dx, l2, us, oddR g, k, ?_, upd_same, SqL.of ((upd_ne l2x).trans ((upd_ne l2d).trans h2)), pu.nodup_iff.mpr zn, ?_, oddR_lt gk k0, k0, k8, fun G4 fa keep => ⟨rfl, ?_⟩⟩
      · show [V.ref x, V.ref l2, V.int (Builtin.bitOr ((g : Int) + 1) 1)] = _
        rw [orI]
      · exact Nat.le_trans (nodup_sub (pu.nodup_iff.mpr zn) fun y hy => nm.mem y ((ui y).mp hy)) nm.few
      · have s6 : Same G3 G4 := fun b o q => keep b o ((upd_ne (ne_of_none q nx)).trans ((upd_ne (ne_of_none q ndx)).trans q)) (ne_of_none q nx)
        exact go x us G4 (x5.trans (ExtN.of s6)) (t5.ext s6) fa ui
end
end K2P

set_option Elab.async false
set_option linter.all false
set_option maxRecDepth 100000
set_option maxHeartbeats 4000000
set_option autoImplicit false
/-! Products and powers of polynomials as their tables' ones. Maths. -/
namespace K2P
open PySem L2 K1D
theorem len_flat {α β : Type} (h : α → List β) {c : Nat} : ∀ {l : List α}, (∀ x ∈ l, (h x).length ≤ c) → (l.flatMap h).length ≤ l.length * c
  | [], _ => Nat.zero_le _
  | x :: l, q => by
    rw [List.flatMap_cons, List.length_append, List.length_cons, Nat.succ_mul]
    have := len_flat h (l := l) fun y hy => q y (List.mem_cons_of_mem _ hy)
    have := q x List.mem_cons_self
    omega
theorem mem_prodL {α β γ : Type} {op : α → β → γ} {p : List (α × Int)} {q : List (β × Int)} {x : γ × Int} : x ∈ prodL op p q ↔ ∃ y ∈ p, ∃ z ∈ q, x = (op y.1 z.1, y.2 * z.2) := by
  unfold prodL rowL
  rw [List.mem_flatMap]
  constructor
  · rintro ⟨y, hy, hx⟩
    obtain ⟨z, hz, rfl⟩ := List.mem_map.mp hx
    exact ⟨y, hy, z, hz, rfl⟩
  · rintro ⟨y, hy, z, hz, rfl⟩
    exact ⟨y, hy, List.mem_map.mpr ⟨z, hz, rfl⟩⟩
/-- names that may come -/
structure NamesOk (L : List Str) : Prop where
  few : L.length ≤ 1000
  low : ∀ x ∈ L, x.length ≤ sizeLine
/-- a polynomial over these names, its exponents up to e, its coefficients of less than b bits -/
structure Tame (L : List Str) (e b : Nat) (p : Poly) : Prop where
  ok : PolyOk p
  at_ : ∀ t ∈ p, ∀ f ∈ t.1, f.1 ∈ L ∧ f.2 ≤ (e : Int)
  bits : ∀ t ∈ p, t.2.natAbs < 2 ^ b
  len : p.length ≤ 4000
section
variable {L : List Str} {e b : Nat} {p : Poly}
theorem mon_len {m : Mon} (h : MonOk m) (hL : ∀ f ∈ m, f.1 ∈ L) : m.length ≤ L.length := by
  have := nodup_sub h.nd (b := L) fun x hx => by
    obtain ⟨f, hf, rfl⟩ := List.mem_map.mp hx
    exact hL f hf
  rw [List.length_map] at this
  exact this
theorem PolyOk.ge (h : PolyOk p) : ∀ f ∈ facs p, 1 ≤ f.2 := fun f hf => by
  obtain ⟨t, ht, hf⟩ := mem_facs.mp hf
  exact (h.ok t ht).1.ge f hf
theorem Tame.facs (h : Tame L e b p) (n : NamesOk L) : (facs p).length < sizeLine := by
  have := len_flat (fun t : Term => t.1) (c := 1000) (l := p) fun t ht => Nat.le_trans (mon_len (h.ok.ok t ht).1 fun f hf => (h.at_ t ht f hf).1) n.few
  have l : (p.flatMap fun t => t.1).length = (K2P.facs p).length := rfl
  rw [l] at this
  have := h.len
  rw [sizeLine_eq]
  omega
theorem Tame.name (h : Tame L e b p) {x : Str} (q : ∃ f ∈ K2P.facs p, f.1 = x) : x ∈ L := by
  obtain ⟨f, hf, rfl⟩ := q
  obtain ⟨t, ht, hf⟩ := mem_facs.mp hf
  exact (h.at_ t ht f hf).1
theorem Tame.great (h : Tame L e b p) {m : Int} (g : Greatest (K2P.facs p) m) : ∃ n : Nat, m = n ∧ n ≤ e ∧ ∀ t ∈ p, ∀ f ∈ t.1, f.2 ≤ (n : Int) := by
  have m0 : 0 ≤ m ∧ m ≤ e := by
    rcases g.2 with q | ⟨f, hf, q⟩
    · omega
    · have := h.ok.ge f hf
      obtain ⟨t, ht, hf⟩ := mem_facs.mp hf
      have := (h.at_ t ht f hf).2
      omega
  refine ⟨m.toNat, by omega, by omega, fun t ht f hf => ?_⟩
  have := g.1 f (mem_facs.mpr ⟨t, ht, hf⟩)
  omega
end
theorem exM_le {m : Mon} {g : Nat} (h : MonOk m) (le : ∀ f ∈ m, f.2 ≤ (g : Int)) (x : Str) : exM m x ≤ g := by
  by_cases q : ∃ f ∈ m, f.1 = x
  · obtain ⟨f, hf, rfl⟩ := q
    rw [exM_at h.nd hf]
    have := le f hf
    omega
  · rw [exM_out fun f hf e => q ⟨f, hf, e⟩]
    exact Nat.zero_le _
/-- names and exponents of p, for a table of these fields -/
structure Within (ns : List Str) (g : Nat) (p : Poly) : Prop where
  ok : PolyOk p
  mem : ∀ t ∈ p, ∀ f ∈ t.1, f.1 ∈ ns
  le : ∀ t ∈ p, ∀ f ∈ t.1, f.2 ≤ (g : Int)
section
variable {ns : List Str} {r g g1 g2 : Nat} {p q : Poly}
theorem Within.expo (h : Within ns g p) : ∀ x ∈ liftP p, (∀ n, n ∉ ns → x.1 n = 0) ∧ ∀ n, x.1 n ≤ g := fun x hx => by
  obtain ⟨t, ht, rfl⟩ := List.mem_map.mp hx
  exact ⟨fun n hn => exM_out fun f hf e => hn (by rw [← e]; exact h.mem t ht f hf), fun n => exM_le (h.ok.ok t ht).1 (h.le t ht) n⟩
theorem Within.pack (h : Within ns g p) (nd : ns.Nodup) (gr : g < r) : packT ns r p = (liftP p).map (fun x => (keyI ns r x.1, x.2)) ∧ ∀ x ∈ liftP p, Dom ns r x.1 :=
  tabOf_pack nd h.ok (by omega) fun t ht f hf => ⟨h.mem t ht f hf, by have := h.le t ht f hf; omega⟩
theorem Within.keys (h : Within ns g p) (nd : ns.Nodup) (gr : g < r) : (p.map fun t => keyM ns r t.1).Nodup := by
  obtain ⟨e, dm⟩ := h.pack nd gr
  rw [← packT_keys, e, List.map_map]
  have x := List.pairwise_map.mp h.ok.exnd
  exact List.pairwise_map.mpr (x.imp_of_mem fun {a b} ha hb ne e => ne (keyI_inj (dm a ha) (dm b hb) e))
theorem keyI_add (ns : List Str) (r : Nat) (a b : Expo) : keyI ns r (addE a b) = keyI ns r a + keyI ns r b := by
  unfold keyI
  rw [keyE_add]
  push_cast
  rfl
def prodE (p q : List (Expo × Int)) : List (Expo × Int) := prodL addE p q
theorem pack_bits {b : Nat} (h : ∀ t ∈ p, t.2.natAbs < 2 ^ b) : Bits b (packT ns r p) := fun x hx => by
  obtain ⟨t, ht, rfl⟩ := List.mem_map.mp hx
  exact h t ht
theorem pack_len : (packT ns r p).length = p.length := List.length_map ..
/-- a product's table -/
theorem prod_tab {R : KI} (nd : ns.Nodup) (hp : Within ns g1 p) (hq : Within ns g2 q) (gr : g1 + g2 < r) (h : ProdR (packT ns r p) (packT ns r q) R) : TabOf ns r R (tot (prodE (liftP p) (liftP q))) := by
  obtain ⟨ep, dp⟩ := hp.pack (r := r) nd (by omega)
  obtain ⟨eq, dq⟩ := hq.pack (r := r) nd (by omega)
  refine tabOf_lift (fun x hx => ?_) (fun x hx => ?_) fun j => ?_
  · obtain ⟨y, hy, z, hz, rfl⟩ := mem_prodL.mp hx
    obtain ⟨o1, l1⟩ := hp.expo y hy
    obtain ⟨o2, l2⟩ := hq.expo z hz
    exact dom_add o1 o2 fun n _ => by have := l1 n; have := l2 n; omega
  · obtain ⟨y, hy, z, hz, e⟩ := h.keys x hx
    rw [ep] at hy
    rw [eq] at hz
    obtain ⟨a, ha, rfl⟩ := List.mem_map.mp hy
    obtain ⟨b, hb, rfl⟩ := List.mem_map.mp hz
    exact ⟨_, mem_prodL.mpr ⟨a, ha, b, hb, rfl⟩, by rw [e]; exact (keyI_add ns r a.1 b.1).symm⟩
  · rw [h.tot, ep, eq, prodL_map (keyI ns r) addE (· + ·) (keyI_add ns r)]
    rfl
/-! ### powers -/
def powE (p : List (Expo × Int)) : Nat → List (Expo × Int)
  | 0 => [(oneE, 1)]
  | n + 1 => prodE p (powE p n)
theorem keyI_zero (ns : List Str) (r : Nat) : keyI ns r oneE = 0 := by
  unfold keyI keyE
  rw [numD_zeros fun d hd => by obtain ⟨x, _, rfl⟩ := List.mem_map.mp hd; rfl]
  rfl
theorem powL_map (nd : ns.Nodup) (hp : Within ns g p) (gr : g < r) : ∀ n, powL (packT ns r p) n = (powE (liftP p) n).map fun x => (keyI ns r x.1, x.2)
  | 0 => by
    show [((0 : Int), (1 : Int))] = [(keyI ns r oneE, 1)]
    rw [keyI_zero]
  | n + 1 => by
    show prodL (· + ·) (packT ns r p) (powL (packT ns r p) n) = _
    rw [powL_map nd hp gr n, (hp.pack nd gr).1, prodL_map (keyI ns r) addE (· + ·) (keyI_add ns r)]
    rfl
theorem powE_expo (hp : Within ns g p) : ∀ n, ∀ x ∈ powE (liftP p) n, (∀ y, y ∉ ns → x.1 y = 0) ∧ ∀ y, x.1 y ≤ g * n
  | 0, x, h => by
    rw [List.mem_singleton.mp h]
    exact ⟨fun _ _ => rfl, fun _ => Nat.zero_le _⟩
  | n + 1, x, h => by
    obtain ⟨a, ha, b, hb, rfl⟩ := mem_prodL.mp h
    obtain ⟨o1, l1⟩ := hp.expo a ha
    obtain ⟨o2, l2⟩ := powE_expo hp n b hb
    refine ⟨fun y hy => by show a.1 y + b.1 y = 0; rw [o1 y hy, o2 y hy], fun y => ?_⟩
    have := l1 y
    have := l2 y
    show a.1 y + b.1 y ≤ g * (n + 1)
    rw [Nat.mul_succ]
    omega
/-- a power's table -/
theorem pow_tab {R : KI} {n : Nat} (nd : ns.Nodup) (hp : Within ns g p) (gr : g < r) (gn : g * n < r) (h : PowR (packT ns r p) n R) : TabOf ns r R (tot (powE (liftP p) n)) := by
  have dm : ∀ x ∈ powE (liftP p) n, Dom ns r x.1 := fun x hx => by
    obtain ⟨o, l⟩ := powE_expo hp n x hx
    exact ⟨o, fun y _ => by have := l y; omega⟩
  refine tabOf_lift dm (fun x hx => ?_) fun j => ?_
  · have ne : tot (powL (packT ns r p) n) x.1 ≠ 0 := by
      rw [← h.tot, tot_mem h.nd (k := x.1) (c := x.2) hx]
      exact h.nz x hx
    obtain ⟨y, hy, e⟩ := List.mem_map.mp (tot_key ne)
    rw [powL_map nd hp gr] at hy
    obtain ⟨z, hz, rfl⟩ := List.mem_map.mp hy
    exact ⟨z, hz, e.symm⟩
  · rw [h.tot, powL_map nd hp gr]
end
end K2P

set_option Elab.async false
set_option linter.all false
set_option maxRecDepth 100000
set_option maxHeartbeats 8000000
set_option autoImplicit false
set_option pp.maxSteps 900
/-! figurehold.polys: _told, multiplied, power. -/
namespace K2P
open PySem L2 K1D
open LamX (Tabs ExtN TabB)
open K1P (ManyTxt Raises tooGreat spIni okN err_read raises_up LimTxt)
abbrev sToldF : Stmt := top 27
abbrev sMul : Stmt := top 23
/-- a function's call by its name -/
structure CallT (P : Program) (w : World) (K : PySem.W.Frag) (mg : Str → Option Value) (base : Heap) (CX : CXT) (k : Nat) (x : Str) (ps : List Str) (sp : Sp) (f : Addr) (d : FuncData) : Prop where
  ok : FnOk P w K mg base CX k f d ps sp
  b : Binds K d ps []
  g : mg x = some (.ref f)
  k : PySem.W.keepIn K (.ref f) = true
structure MethT (P : Program) (w : World) (K : PySem.W.Frag) (mg : Str → Option Value) (base : Heap) (C : Addr) (k : Nat) (x : Str) (ps : List Str) (sp : Sp) (f : Addr) (d : FuncData) : Prop where
  ok : FnOk P w K mg base CX0 k f d ps sp
  b : Binds K d ps []
  m : Meth K C x f
/-- the keys of T are those of exponents -/
def KeysIn (ns : List Str) (r : Nat) (T : KI) : Prop := ∀ x ∈ T, x.2 ≠ 0 ∧ ∃ g, Dom ns r g ∧ x.1 = keyI ns r g
theorem fF_told {l1 l2 l3 : Addr} : (fF l1 l2 l3).lookup ("told" : Str) = none := by
  have h : (("told" : Str) == "names") = false := by decide +kernel
  have h2 : (("told" : Str) == "weights") = false := by decide +kernel
  have h3 : (("told" : Str) == "places") = false := by decide +kernel
  simp [fF, List.lookup, h, h2, h3]
theorem fF_packed {l1 l2 l3 : Addr} : (fF l1 l2 l3).lookup ("packed" : Str) = none := by
  have h : (("packed" : Str) == "names") = false := by decide +kernel
  have h2 : (("packed" : Str) == "weights") = false := by decide +kernel
  have h3 : (("packed" : Str) == "places") = false := by decide +kernel
  simp [fF, List.lookup, h, h2, h3]
def spToldF (K : PySem.W.Frag) (C : Addr) : Sp := fun vs H Q _ => ∃ (d f : Addr) (T : KI) (ns : List Str) (r : Nat), vs = [.ref d, .ref f] ∧ FieldsAt C H f ns r ∧ TabAt H d T ∧ KeysIn ns r T ∧ r ^ ns.length < 2 ^ 8999 ∧ FitsC (cs T) ∧
  ∀ (a : Addr) (p : Poly) (G : Hp), Same H G → ToldP ns r T p → KeyV K G (polyK p) (.ref a) → Q (.ref a) G
def spToldB (C CM : Addr) : Sp := fun vs H _ E => ∃ (d f : Addr) (T : KI) (z : Str), vs = [.ref d, .ref f] ∧ TabAt H d T ∧ T.length < sizeLine ∧ BadC (cs T) z ∧ Raises CM z H E
section
variable {P : Program} {w : World} {K : PySem.W.Frag} {mg : Str → Option Value} {base : Heap} {C B CM fI : Addr} {dI : FuncData}
theorem scToldF : FnScope ["table", "fields"] ["table", "fields"] (defScope sToldF) := ⟨rfl, rfl, rfl, by decide +kernel, rfl, by decide +kernel, by decide +kernel⟩
theorem ok_toldF {f fL fU : Addr} {fd dL dU : FuncData} (F : Fun K "_told" "_told" sToldF f fd) (T : FldTxt K mg C) (G : CallT P w K mg base CX0 1 "_check_limits" ["table"] spLim fL dL) (U : MethT P w K mg base C 2 "told" ["self", "table"] (spTold K C) fU dU) : FnOk P w K mg base CX0 3 f fd ["table", "fields"] (spToldF K C) := by
  refine F.ok scToldF (fun vs H Q E h => ?_) (fun cdv A outer s H vs Q E hr h => ?_)
  · obtain ⟨d, f, T, ns, r, rfl, _⟩ := h
    rfl
  · obtain ⟨d, f0, T0, ns, r, rfl, fa, hd, ki, rb, fi, go⟩ := h
    refine ⟨_, (pss_cons (ps_expr (pe_call G.ok (hr.mono (by decide)) rfl G.g G.k G.b .nil pass0 (pa_cons (pv 0) pa_nil)))
      (pss_one (ps_ret (pe_meth (pv 1) T.cl U.m U.ok (hr.mono (by decide)) U.b .nil pass0 (pa_cons (pv 0) pa_nil))))), ?_⟩
    refine ⟨_, rfl, d, T0, rfl, hd, fi, fun G1 s1 => ?_⟩
    have fa1 := fa.up s1
    obtain ⟨⟨dx, l1, l3, l4, o0, o1, o2, o3⟩, fnd, fn1, frk⟩ := id fa1
    have hl : T0.length < sizeLine := by have := fi.1; rw [cs_len] at this; rw [sizeLine_eq]; omega
    exact ⟨_, rfl, f0, dx, _, rfl, o0, fF_told, _, rfl, f0, d, T0, ns, r, rfl, fa1, hd.up s1, hl, ki, rb, fun a p G2 s2 tp kv => go a p G2 (s1.trans s2) tp kv⟩
theorem ok_toldB {f fL fU : Addr} {fd dL dU : FuncData} (F : Fun K "_told" "_told" sToldF f fd) (T : FldTxt K mg C) (G : CallT P w K mg base (L2N.CX P w) 3 "_check_limits" ["table"] (spLimBad CM) fL dL) (U : MethT P w K mg base C 2 "told" ["self", "table"] (spTold K C) fU dU) : FnOk P w K mg base (L2N.CX P w) 4 f fd ["table", "fields"] (spToldB C CM) := by
  refine okN F scToldF (fun vs H Q E h => ?_) (fun cdv A outer s H vs Q E hr h => ?_)
  · obtain ⟨d, f, T, z, rfl, _⟩ := h
    rfl
  · obtain ⟨d, f0, T0, z, rfl, hd, hl, bad, go⟩ := h
    refine ⟨_, (pss_cons (ps_expr (pe_callS G.ok (hr.mono (by decide)) rfl G.g G.k G.b (fun σ => L2N.passAt (L2N.takes_of rfl rfl rfl rfl) σ) (pa_cons (pv 0) pa_nil)))
      (pss_one (ps_ret (pe_meth (pv 1) T.cl U.m U.ok (hr.mono (by decide)) U.b .nil pass0 (pa_cons (pv 0) pa_nil))))), ?_⟩
    exact ⟨_, rfl, d, T0, z, rfl, hd, hl, bad, go⟩
/-- what is raised, tables of code objects grown in between -/
def RaisesX (Pt C : Addr) (z : Str) (H : Hp) (E : XK) : Prop := ∀ (G : Hp) (dd : Addr), ExtN H G → Tabs (lamT Pt) G → G dd = none → E (.ref C) (some dd) (upd G dd (.xd [("word", .str z)]))
theorem RaisesX.at {Pt C : Addr} {z : Str} {H G : Hp} {E : XK} (h : RaisesX Pt C z H E) (x : ExtN H G) (t : Tabs (lamT Pt) G) : Raises C z G E := fun F dd s n => h F dd (x.trans (ExtN.of s)) (t.ext s) n
theorem keyV_ext {H G : Hp} {k : NestedKey} {v : V} (x : ExtN H G) (h : KeyV K H k v) : KeyV K G k v := KeyV.up ⟨fun b ys e => x b _ e fun ps z => (nomatch z), fun b o ys e => x b _ e fun ps z => (nomatch z)⟩ _ _ h
/-- what is promised of the input of a product -/
structure MulIn (K : PySem.W.Frag) (Pt : Addr) (H : Hp) (va vb : Addr) (p q : Poly) (L : List Str) (e1 e2 b1 b2 k : Nat) : Prop where
  tb : Tabs (lamT Pt) H
  kp : KeyV K H (polyK p) (.ref va)
  kq : KeyV K H (polyK q) (.ref vb)
  nm : NamesOk L
  tp : Tame L e1 b1 p
  tq : Tame L e2 b2 q
  ek : e1 + e2 + 1 < 2 ^ k
  k0 : 0 < k
  k6 : k ≤ 60
  kl : k * L.length < 8999
  b10 : 0 < b1
  b20 : 0 < b2
  bb : b1 + b2 ≤ 1000000
/-- what is promised of the input of a power -/
structure PowIn (K : PySem.W.Frag) (Pt : Addr) (H : Hp) (va : Addr) (p : Poly) (L : List Str) (n e b1 b2 k : Nat) : Prop where
  tb : Tabs (lamT Pt) H
  kp : KeyV K H (polyK p) (.ref va)
  nm : NamesOk L
  tp : Tame L e b1 p
  ek : e * n + 1 < 2 ^ k
  e6 : e < 2 ^ 60
  n6 : n < 1000000
  k0 : 0 < k
  k6 : k ≤ 60
  kl : k * L.length < 8999
  b10 : 0 < b1
  b20 : 0 < b2
  bb : b1 + b2 ≤ 1000000
/-- what is promised of (lists or tuples) the input of a product -/
structure MulG (K : PySem.W.Frag) (Pt : Addr) (H : Hp) (va vb : Addr) (p q : Poly) (L : List Str) (e1 e2 b1 b2 k : Nat) (bp bq : Bool) : Prop where
  tb : Tabs (lamT Pt) H
  kp : PolyB bp K H p va
  kq : PolyB bq K H q vb
  nm : NamesOk L
  tp : Tame L e1 b1 p
  tq : Tame L e2 b2 q
  ek : e1 + e2 + 1 < 2 ^ k
  k0 : 0 < k
  k6 : k ≤ 60
  kl : k * L.length < 8999
  b10 : 0 < b1
  b20 : 0 < b2
  bb : b1 + b2 ≤ 1000000
/-- what is promised of (lists or tuples) the input of a power -/
structure PowG (K : PySem.W.Frag) (Pt : Addr) (H : Hp) (va : Addr) (p : Poly) (L : List Str) (n e b1 b2 k : Nat) (bp : Bool) : Prop where
  tb : Tabs (lamT Pt) H
  kp : PolyB bp K H p va
  nm : NamesOk L
  tp : Tame L e b1 p
  ek : e * n + 1 < 2 ^ k
  e6 : e < 2 ^ 60
  n6 : n < 1000000
  k0 : 0 < k
  k6 : k ≤ 60
  kl : k * L.length < 8999
  b10 : 0 < b1
  b20 : 0 < b2
  bb : b1 + b2 ≤ 1000000
theorem MulIn.gen {K : PySem.W.Frag} {Pt : Addr} {H : Hp} {va vb : Addr} {p q : Poly} {L : List Str} {e1 e2 b1 b2 k : Nat} (h : MulIn K Pt H va vb p q L e1 e2 b1 b2 k) : MulG K Pt H va vb p q L e1 e2 b1 b2 k false false :=
  ⟨h.tb, polyB_of h.kp, polyB_of h.kq, h.nm, h.tp, h.tq, h.ek, h.k0, h.k6, h.kl, h.b10, h.b20, h.bb⟩
theorem PowIn.gen {K : PySem.W.Frag} {Pt : Addr} {H : Hp} {va : Addr} {p : Poly} {L : List Str} {n e b1 b2 k : Nat} (h : PowIn K Pt H va p L n e b1 b2 k) : PowG K Pt H va p L n e b1 b2 k false :=
  ⟨h.tb, polyB_of h.kp, h.nm, h.tp, h.ek, h.e6, h.n6, h.k0, h.k6, h.kl, h.b10, h.b20, h.bb⟩
theorem Keeps.ext {K : PySem.W.Frag} {H G : Hp} (x : ExtN H G) : Keeps K H G := fun b a xs h => by
  cases b
  · rcases h with (h | ⟨o, h⟩) | h
    · exact .inl (.inl (x _ _ h fun ps z => nomatch z))
    · exact .inl (.inr ⟨o, x _ _ h fun ps z => nomatch z⟩)
    · exact .inr h
  · rcases h with (h | ⟨o, h⟩) | h
    · exact .inl (.inl (x _ _ h fun ps z => nomatch z))
    · exact .inl (.inr ⟨o, x _ _ h fun ps z => nomatch z⟩)
    · exact .inr h
theorem polyB_ext {K : PySem.W.Frag} {H G : Hp} {b : Bool} {p : Poly} {a : Addr} (x : ExtN H G) (h : PolyB b K H p a) : PolyB b K G p a := h.keep (Keeps.ext x)
structure IsPow (p : Poly) (n : Nat) (r : Poly) : Prop where
  ok : PolyOk r
  sem : ∀ f, semP r f = tot (powE (liftP p) n) f
/-- the powers on the way are small -/
def MidsOk (p : Poly) (n b : Nat) : Prop := ∀ i < n, ∃ r, IsPow p i r ∧ r.length ≤ 4000 ∧ ∀ t ∈ r, t.2.natAbs < 2 ^ b
/-- the product -/
structure IsProd (p q r : Poly) : Prop where
  ok : PolyOk r
  sem : ∀ f, semP r f = tot (prodE (liftP p) (liftP q)) f
def spMul (K : PySem.W.Frag) (Pt : Addr) : Sp := fun vs H Q _ => ∃ (va vb : Addr) (p q r : Poly) (L : List Str) (e1 e2 b1 b2 k : Nat), vs = [.ref va, .ref vb] ∧ MulIn K Pt H va vb p q L e1 e2 b1 b2 k ∧ IsProd p q r ∧ FitsC (r.map (·.2)) ∧
  ∀ (a : Addr) (G : Hp), ExtN H G → Tabs (lamT Pt) G → KeyV K G (polyK r) (.ref a) → Q (.ref a) G
def spMulB (K : PySem.W.Frag) (Pt CM : Addr) : Sp := fun vs H _ E => ∃ (va vb : Addr) (p q r : Poly) (L : List Str) (e1 e2 b1 b2 k : Nat) (z : Str), vs = [.ref va, .ref vb] ∧ MulIn K Pt H va vb p q L e1 e2 b1 b2 k ∧ IsProd p q r ∧ BadC (r.map (·.2)) z ∧ RaisesX Pt CM z H E
theorem scMul : FnScope ["p", "q", "fields", "product"] ["p", "q"] (defScope sMul) := ⟨rfl, rfl, rfl, by decide +kernel, rfl, by decide +kernel, by decide +kernel⟩
variable {fR fD fM fY fW : Addr} {dR dD dM dY dW : FuncData} {Pt : Addr}
/-- the product's table stands -/
structure TabIs (K : PySem.W.Frag) (C Pt : Addr) (H G : Hp) (f d : Addr) (r : Poly) (ns : List Str) (x : Nat) (R : KI) : Prop where
  ex : ExtN H G
  tb : Tabs (lamT Pt) G
  fa : FieldsAt C G f ns x
  tab : TabAt G d R
  ki : KeysIn ns x R
  len : R.length < sizeLine
  rb : x ^ ns.length < 2 ^ 8999
  is : ∀ p, ToldP ns x R p → p = r
  perm : (r.map (·.2)).Perm (cs R)
theorem keysIn_of {ns : List Str} {r : Nat} {R : KI} {s : Expo → Int} (h : TabOf ns r R s) (nz : ∀ x ∈ R, x.2 ≠ 0) : KeysIn ns r R := fun x hx => by
  obtain ⟨f, hf, e⟩ := h.keys x hx
  exact ⟨nz x hx, f, hf, e⟩
theorem tab_is {ns : List Str} {x : Nat} {R : KI} {r : Poly} {s : Expo → Int} (ndn : ns.Nodup) (nd : (R.map (·.1)).Nodup) (nz : ∀ x ∈ R, x.2 ≠ 0) (t : TabOf ns x R s) (ok : PolyOk r) (e : ∀ f, semP r f = s f) : (∀ p, ToldP ns x R p → p = r) ∧ (r.map (·.2)).Perm (cs R) := by
  refine ⟨fun p hp => hp.is t ok e, ?_⟩
  obtain ⟨p, hp⟩ := told_of ndn nd (keysIn_of t nz)
  have := hp.perm
  rw [hp.is t ok e] at this
  exact this
theorem pow_lt {x k l m : Nat} (h : x < 2 ^ k) (le : l ≤ m) (km : k * m < 8999) (k0 : 0 < k) : x ^ l < 2 ^ 8999 := by
  refine Nat.lt_of_le_of_lt (Nat.pow_le_pow_left (Nat.le_of_lt h) l) ?_
  rw [← Nat.pow_mul]
  refine Nat.pow_lt_pow_right (by decide) ?_
  have : k * l ≤ k * m := Nat.mul_le_mul_left _ le
  omega
theorem facs_names {L : List Str} {e b : Nat} {p : Poly} (h : Tame L e b p) : ∀ x, (∃ f ∈ facs p, f.1 = x) → x ∈ L := fun x q => h.name q
theorem mul_head {rest : TS} {Z : Ends} {H : Hp} {va vb : Addr} {p q r : Poly} {L : List Str} {e1 e2 b1 b2 k : Nat} {bp bq : Bool} (hi : MulG K Pt H va vb p q L e1 e2 b1 b2 k bp bq) (ip : IsProd p q r)
    (go : ∀ (f d : Addr) (ns : List Str) (x : Nat) (R : KI) (G : Hp), TabIs K C Pt H G f d r ns x R → rest Z [some (.ref va), some (.ref vb), some (.ref f), some (.ref d)] G)
    (no : 2000 < r.length → ∀ (f : Addr) (G : Hp), ExtN H G → Tabs (lamT Pt) G → rest Z [some (.ref va), some (.ref vb), some (.ref f), some .non] G) :
    (tSeq (tAsg (tCall (spRoomy K C Pt) [] E0 (tCons (tTup (tCons (tVar 0) (tCons (tVar 1) tNil))) (tCons (tOp (rI0 fun i j => V.int (i + j)) (tCall (spGreatest K) [] E0 (tCons (tVar 0) tNil)) (tCall (spGreatest K) [] E0 (tCons (tVar 1) tNil))) tNil))) (gName 2))
      (tSeq (tAsg (tCall spMost [] E0 (tCons (tMeth C (Str.ofString "packed") (spPacked K C) [] E0 (tVar 2) (tCons (tVar 0) tNil)) (tCons (tMeth C (Str.ofString "packed") (spPacked K C) [] E0 (tVar 2) (tCons (tVar 1) tNil)) (tCons (tC (V.int 2000)) tNil)))) (gName 3)) rest))
      Z (start ["p", "q", "fields", "product"] [V.ref va, V.ref vb]) H := by
  obtain ⟨tb, kp, kq, nm, tp, tq, ek, k0, k6, kl, b10, b20, bb⟩ := hi
  refine ⟨_, rfl, _, rfl, by show 2 ≤ sizeLine; decide, fun t nt => ?_⟩
  have s1 : Same H (upd H t (.tup [.ref va, .ref vb])) := same_new nt
  have ht : upd H t (.tup [.ref va, .ref vb]) t = some (.tup [.ref va, .ref vb]) := upd_same
  generalize upd H t (.tup [.ref va, .ref vb]) = H1 at s1 ht ⊢
  have kp1 := polyB_ext (ExtN.of s1) kp
  have kq1 := polyB_ext (ExtN.of s1) kq
  refine ⟨_, rfl, bp, bp, va, p, rfl, kp1, tp.ok.ge, tp.facs nm, fun m1 H2 s2 gr1 => ?_⟩
  refine ⟨_, rfl, bq, bq, vb, q, rfl, polyB_ext (ExtN.of s2) kq1, tq.ok.ge, tq.facs nm, fun m2 H3 s3 gr2 => ?_⟩
  obtain ⟨g1, rfl, ge1, le1⟩ := tp.great gr1
  obtain ⟨g2, rfl, ge2, le2⟩ := tq.great gr2
  have s13 : Same H1 H3 := s2.trans s3
  have kp3 := polyB_ext (ExtN.of s13) kp1
  have kq3 := polyB_ext (ExtN.of s13) kq1
  refine ⟨_, _, rfl, rfl, false, t, [.ref va, .ref vb], [p, q], L, g1 + g2, k, rfl, tb.ext (s1.trans s13), SqT.of (s13 _ _ ht), ⟨rfl, fun i x v ex ev => ?_⟩, ⟨fun x hx => ?_, nm.few, nm.low⟩, fun x hx => ?_, by omega, k0, by omega, fun f ns H4 x4 t4 fa hn => ?_⟩
  · match i, ex, ev with
    | 0, ex, ev =>
      cases ex
      cases ev
      exact ⟨va, bp, bp, rfl, kp3⟩
    | 1, ex, ev =>
      cases ex
      cases ev
      exact ⟨vb, bq, bq, rfl, kq3⟩
  · obtain ⟨y, hy, h⟩ := hx
    rcases List.mem_cons.mp hy with e | hy
    · rw [e] at h; exact tp.name h
    · rw [List.mem_singleton.mp hy] at h; exact tq.name h
  · rcases List.mem_cons.mp hx with e | hx
    · rw [e]; exact ⟨tp.ok.ge, tp.facs nm⟩
    · rw [List.mem_singleton.mp hx]; exact ⟨tq.ok.ge, tq.facs nm⟩
  have xH4 : ExtN H H4 := (ExtN.of (s1.trans s13)).trans x4
  have ndn := fa.nd
  have ps : ∀ t ∈ p, ∀ f ∈ t.1, f.1 ∈ ns := fun t ht f hf => (hn f.1).mpr ⟨p, List.mem_cons_self, f, mem_facs.mpr ⟨t, ht, hf⟩, rfl⟩
  have qs : ∀ t ∈ q, ∀ f ∈ t.1, f.1 ∈ ns := fun t ht f hf => (hn f.1).mpr ⟨q, List.mem_cons_of_mem _ List.mem_cons_self, f, mem_facs.mpr ⟨t, ht, hf⟩, rfl⟩
  have wp : Within ns g1 p := ⟨tp.ok, ps, le1⟩
  have wq : Within ns g2 q := ⟨tq.ok, qs, le2⟩
  have nl : ns.length ≤ L.length := nodup_sub ndn fun x hx => by
    obtain ⟨y, hy, h⟩ := (hn x).mp hx
    rcases List.mem_cons.mp hy with e | hy
    · rw [e] at h; exact tp.name h
    · rw [List.mem_singleton.mp hy] at h; exact tq.name h
  have rg := oddR_gt (g1 + g2)
  have rl : oddR (g1 + g2) < 2 ^ k := oddR_lt (by omega) k0
  have p60 : 2 ^ k ≤ 2 ^ 60 := Nat.pow_le_pow_right (by decide) k6
  generalize oddR (g1 + g2) = r0 at fa rg rl
  have inn : ∀ {g : Nat} {b e : Nat} {z : Poly}, Tame L e b z → (∀ t ∈ z, ∀ f ∈ t.1, f.1 ∈ ns) → (∀ t ∈ z, ∀ f ∈ t.1, f.2 ≤ (g : Int)) → g < r0 → ∀ t ∈ z, InNames ns t.1 := fun {g b e z} tz zn zl gr t ht => by
    refine ⟨zn t ht, fun f hf => ?_, ?_⟩
    · have := zl t ht f hf
      have := (tz.ok.ok t ht).1.ge f hf
      have : f.2.natAbs < 2 ^ 60 := by omega
      exact Nat.lt_of_lt_of_le this (by decide)
    · have := mon_len (tz.ok.ok t ht).1 fun f hf => (tz.at_ t ht f hf).1
      have := nm.few
      omega
  have lp := tp.len
  have lq := tq.len
  obtain ⟨⟨dx, l1, l2, l3, o0, o1, o2, o3⟩, fnd, fn1, frk⟩ := id fa
  refine ⟨_, rfl, f, dx, _, rfl, o0, fF_packed, _, rfl, bp, f, va, p, ns, r0, rfl, fa, polyB_ext xH4 kp, inn tp ps le1 (by omega), by rw [sizeLine_eq]; omega, fun d1 H5 s5 n5 t5 => ?_⟩
  refine ⟨_, rfl, f, dx, _, rfl, s5 _ _ o0, fF_packed, _, rfl, bq, f, vb, q, ns, r0, rfl, fa.up s5, polyB_ext (xH4.trans (ExtN.of s5)) kq, inn tq qs le2 (by omega), by rw [sizeLine_eq]; omega, fun d2 H6 s6 n6 t6 => ?_⟩
  rw [puts_pack (wp.keys ndn (by omega))] at t5
  rw [puts_pack (wq.keys ndn (by omega))] at t6
  have x6 : ExtN H H6 := xH4.trans (ExtN.of (s5.trans s6))
  have tb6 := t4.ext (s5.trans s6)
  have ll : (packT ns r0 p).length * (packT ns r0 q).length < sizeLine := by
    rw [pack_len, pack_len, sizeLine_eq]
    have : p.length * q.length ≤ 4000 * 4000 := Nat.mul_le_mul lp lq
    omega
  refine ⟨d1, d2, 2000, packT ns r0 p, packT ns r0 q, b1, b2, rfl, t5.up s6, t6, ll, by rw [pack_len, sizeLine_eq]; omega, by rw [pack_len, sizeLine_eq]; omega, pack_bits tp.bits, pack_bits tq.bits, b10, b20, bb, fun d R G sG nd tR pr => ?_, fun big G sG => ?_⟩
  · have tof := prod_tab ndn wp wq rg pr
    obtain ⟨h1, h2⟩ := tab_is ndn tR.2 pr.nz tof ip.ok ip.sem
    exact go f d ns r0 R G ⟨x6.trans (ExtN.of sG), tb6.ext sG, fa.up (s5.trans (s6.trans sG)), tR, keysIn_of tof pr.nz, Nat.lt_of_le_of_lt pr.len ll, pow_lt rl nl kl k0, h1, h2⟩
  · refine no ?_ f G (x6.trans (ExtN.of sG)) (tb6.ext sG)
    have pr := prodR_nz (packT ns r0 p) (packT ns r0 q)
    have tof := prod_tab ndn wp wq rg pr
    obtain ⟨_, h2⟩ := tab_is ndn (nodup_nzT (nodup_prodT _ _)) pr.nz tof ip.ok ip.sem
    have := big _ pr
    have e := h2.length_eq
    rw [List.length_map, cs_len] at e
    omega
/-- lists or tuples -/
def spMulG (K : PySem.W.Frag) (Pt : Addr) : Sp := fun vs H Q _ => ∃ (va vb : Addr) (p q r : Poly) (L : List Str) (e1 e2 b1 b2 k : Nat) (bp bq : Bool), vs = [.ref va, .ref vb] ∧ MulG K Pt H va vb p q L e1 e2 b1 b2 k bp bq ∧ IsProd p q r ∧ FitsC (r.map (·.2)) ∧
  ∀ (a : Addr) (G : Hp), ExtN H G → Tabs (lamT Pt) G → KeyV K G (polyK r) (.ref a) → Q (.ref a) G
theorem ok_mulG {f : Addr} {fd : FuncData} (F : Fun K "multiplied" "multiplied" sMul f fd) (T : FldTxt K mg C) (R : CallT P w K mg base CX0 3 "roomy_fields" ["polys", "greatest"] (spRoomy K C Pt) fR dR) (D : CallT P w K mg base CX0 2 "greatest_exponent" ["p"] (spGreatest K) fD dD)
    (M : CallT P w K mg base CX0 2 "times_at_most" ["p", "q", "most"] spMost fM dM) (Y : MethT P w K mg base C 2 "packed" ["self", "p"] (spPacked K C) fY dY) (W : CallT P w K mg base CX0 3 "_told" ["table", "fields"] (spToldF K C) fW dW) (tm : ∃ t, mg "MOST_TERMS" = some (.int 2000 t)) : FnOk P w K mg base CX0 4 f fd ["p", "q"] (spMulG K Pt) := by
  refine F.ok scMul (fun vs H Q E h => ?_) (fun cdv A outer s H vs Q E hr h => ?_)
  · obtain ⟨va, vb, p, q, r, L, e1, e2, b1, b2, k, bp, bq, rfl, _⟩ := h
    rfl
  · obtain ⟨va, vb, p, q, r, L, e1, e2, b1, b2, k, bp, bq, rfl, hi, ip, fi, go⟩ := h
    obtain ⟨t1, g1⟩ := tm
    refine ⟨_, (pss_cons (ps_set (i := 2) scMul.nd rfl (Or.inl rfl) (pe_call R.ok (hr.mono (by decide)) rfl R.g R.k R.b .nil pass0 (pa_cons (pe_tup (pa_cons (pv 0) (pa_cons (pv 1) pa_nil))) (pa_cons (pe_op op_add (pe_call D.ok (hr.mono (by decide)) rfl D.g D.k D.b .nil pass0 (pa_cons (pv 0) pa_nil)) (pe_call D.ok (hr.mono (by decide)) rfl D.g D.k D.b .nil pass0 (pa_cons (pv 1) pa_nil))) pa_nil))))
      (pss_cons (ps_set (i := 3) scMul.nd rfl (Or.inl rfl) (pe_call M.ok (hr.mono (by decide)) rfl M.g M.k M.b .nil pass0 (pa_cons (pe_meth (pv 2) T.cl Y.m Y.ok (hr.mono (by decide)) Y.b .nil pass0 (pa_cons (pv 0) pa_nil)) (pa_cons (pe_meth (pv 2) T.cl Y.m Y.ok (hr.mono (by decide)) Y.b .nil pass0 (pa_cons (pv 1) pa_nil)) (pa_cons (pe_glob (v := .int 2000) (by rfl) g1 ⟨t1, rfl⟩) pa_nil)))))
      (pss_cons (ps_if (pt_cmpR op_isN (pv 3) pe_non (nomark _)) pss_never pss_nil)
      (pss_one (ps_ret (pe_call W.ok (hr.mono (by decide)) rfl W.g W.k W.b .nil pass0 (pa_cons (pv 3) (pa_cons (pv 2) pa_nil)))))))), ?_⟩
    refine mul_head hi ip (fun f d ns x R G h => ?_) (fun l f G _ _ => ?_)
    · refine ⟨_, rfl, rfl, _, rfl, ifN (decide_eq_false fun z => (nomatch z)) ?_⟩
      exact ⟨_, rfl, _, rfl, d, f, R, ns, x, rfl, h.fa, h.tab, h.ki, h.rb, fi.perm h.perm.symm, fun a p2 G2 s2 tp kv => by
        rw [h.is p2 tp] at kv
        exact go a G2 (h.ex.trans (ExtN.of s2)) (h.tb.ext s2) kv⟩
    · have := fi.1
      rw [List.length_map] at this
      omega
theorem ok_mul {f : Addr} {fd : FuncData} (F : Fun K "multiplied" "multiplied" sMul f fd) (T : FldTxt K mg C) (R : CallT P w K mg base CX0 3 "roomy_fields" ["polys", "greatest"] (spRoomy K C Pt) fR dR) (D : CallT P w K mg base CX0 2 "greatest_exponent" ["p"] (spGreatest K) fD dD)
    (M : CallT P w K mg base CX0 2 "times_at_most" ["p", "q", "most"] spMost fM dM) (Y : MethT P w K mg base C 2 "packed" ["self", "p"] (spPacked K C) fY dY) (W : CallT P w K mg base CX0 3 "_told" ["table", "fields"] (spToldF K C) fW dW) (tm : ∃ t, mg "MOST_TERMS" = some (.int 2000 t)) : FnOk P w K mg base CX0 4 f fd ["p", "q"] (spMul K Pt) :=
  fn_imp (ok_mulG F T R D M Y W tm) fun vs H Q E ⟨va, vb, p, q, r, L, e1, e2, b1, b2, k, ev, hi, ip, fi, go⟩ => ⟨va, vb, p, q, r, L, e1, e2, b1, b2, k, false, false, ev, hi.gen, ip, fi, go⟩
theorem ok_mulB {f : Addr} {fd : FuncData} (F : Fun K "multiplied" "multiplied" sMul f fd) (T : FldTxt K mg C) (R : CallT P w K mg base CX0 3 "roomy_fields" ["polys", "greatest"] (spRoomy K C Pt) fR dR) (D : CallT P w K mg base CX0 2 "greatest_exponent" ["p"] (spGreatest K) fD dD)
    (M : CallT P w K mg base CX0 2 "times_at_most" ["p", "q", "most"] spMost fM dM) (Y : MethT P w K mg base C 2 "packed" ["self", "p"] (spPacked K C) fY dY) (W : CallT P w K mg base (L2N.CX P w) 4 "_told" ["table", "fields"] (spToldB C CM) fW dW) (U : ManyTxt P w K mg base B CM fI dI) (tm : ∃ t, mg "MOST_TERMS" = some (.int 2000 t)) : FnOk P w K mg base (L2N.CX P w) 5 f fd ["p", "q"] (spMulB K Pt CM) := by
  refine okN F scMul (fun vs H Q E h => ?_) (fun cdv A outer s H vs Q E hr h => ?_)
  · obtain ⟨va, vb, p, q, r, L, e1, e2, b1, b2, k, z, rfl, _⟩ := h
    rfl
  · obtain ⟨va, vb, p, q, r, L, e1, e2, b1, b2, k, z, rfl, hi, ip, bad, go⟩ := h
    obtain ⟨t1, g1⟩ := tm
    refine ⟨_, (pss_cons (ps_set (i := 2) scMul.nd rfl (Or.inl rfl) (pe_call R.ok (hr.mono (by decide)) rfl R.g R.k R.b .nil pass0 (pa_cons (pe_tup (pa_cons (pv 0) (pa_cons (pv 1) pa_nil))) (pa_cons (pe_op op_add (pe_call D.ok (hr.mono (by decide)) rfl D.g D.k D.b .nil pass0 (pa_cons (pv 0) pa_nil)) (pe_call D.ok (hr.mono (by decide)) rfl D.g D.k D.b .nil pass0 (pa_cons (pv 1) pa_nil))) pa_nil))))
      (pss_cons (ps_set (i := 3) scMul.nd rfl (Or.inl rfl) (pe_call M.ok (hr.mono (by decide)) rfl M.g M.k M.b .nil pass0 (pa_cons (pe_meth (pv 2) T.cl Y.m Y.ok (hr.mono (by decide)) Y.b .nil pass0 (pa_cons (pv 0) pa_nil)) (pa_cons (pe_meth (pv 2) T.cl Y.m Y.ok (hr.mono (by decide)) Y.b .nil pass0 (pa_cons (pv 1) pa_nil)) (pa_cons (pe_glob (v := .int 2000) (by rfl) g1 ⟨t1, rfl⟩) pa_nil)))))
      (pss_cons (ps_if (pt_cmpR op_isN (pv 3) pe_non (nomark _)) (pss_one (L2N.ps_raise rfl (L2N.takes_of rfl rfl rfl rfl) (pmk_err U.err U.iC U.tI U.ini (hr.mono (by decide)) U.bd pass0 rfl U.gC (pa_cons pe_str pa_nil)))) pss_nil)
      (pss_one (ps_ret (pe_callS W.ok (hr.mono (by decide)) rfl W.g W.k W.b (fun σ => L2N.passAt (L2N.takes_of rfl rfl rfl rfl) σ) (pa_cons (pv 3) (pa_cons (pv 2) pa_nil)))))))), ?_⟩
    refine mul_head hi.gen ip (fun f d ns x R G h => ?_) (fun l f G xe te => ?_)
    · refine ⟨_, rfl, rfl, _, rfl, ifN (decide_eq_false fun z => (nomatch z)) ?_⟩
      exact ⟨_, rfl, _, rfl, d, f, R, z, rfl, h.tab, h.len, bad.perm h.perm.symm, go.at h.ex h.tb⟩
    · refine ⟨_, rfl, rfl, _, rfl, ifY (decide_eq_true rfl) ?_⟩
      have ez : z = "terms" := by
        rcases bad with ⟨_, e⟩ | ⟨h, _⟩
        · exact e
        · rw [List.length_map] at h
          omega
      subst ez
      show tErr CM (spIni K CM) (tCons (tC (.str "terms")) tNil) _ G _
      exact err_read U (by decide +kernel) fun dd nd' => go G dd xe te nd'
end
end K2P

set_option Elab.async false
set_option linter.all false
set_option maxRecDepth 100000
set_option maxHeartbeats 4000000
/-! figurehold.polys: added, less, constant; calls by names alone. -/
namespace K1P
open PySem L2 K1D
/-! ### f(k = v, ..), no positional value -/
def tCallN0 (m : Nat) (sp : Sp) (gV : List V → List V → List V) (E : XK) (tk : TA) : TE := fun σ H Q => tk σ H fun zs G => zs.length = m ∧ sp (gV [] zs) G Q E
theorem pe_callN0 {X : Cx} {CX : CXT} {k : Nat} {f : Addr} {fd : FuncData} {ps ks : List Str} {sp : Sp} {E : XK} {x : Str} {p pos : Pos} {kws : List Keyword} {tk : TA} {g : List Value → List Value → List Value} {gV : List V → List V → List V}
    (F : FnOk X.prog X.w X.K X.mg X.base CX k f fd ps sp) (hr : Room k X.A) (hg : Gl X x) (hm : X.mg x = some (.ref f)) (kp : PySem.W.keepIn X.K (.ref f) = true) (hb : KBn X.K fd ps 0 ks g gV) (hx : Passes CX X E) (hkw : PK X kws tk)
    (hall : (backToKw pos (keywordEach kws X.env)).all (·.1.isSome) = true := by rfl) (hks : (backToKw pos (keywordEach kws X.env)).filterMap (·.1) = ks := by rfl) (hdb : (x == ("__debug__" : Str)) = false := by decide)
    (hpl : ((backTo pos (starEach [] X.env)).any (·.1) || (backToKw pos (keywordEach kws X.env)).any (·.1.isNone)) = false := by rfl) : PE X (.Call (.Name x p) [] kws pos) (tCallN0 ks.length sp gV E tk) := ⟨fun pn s τ H Q I h => by
  refine wpAny_Call_Name_kw (ld_glob I hg hm ?_ hdb)
  refine PySem.W.callWith_KW0 (h₀ := X.base) I.ok.mod.kin kp hall (thn (hkw.run pos pn s τ H _ I h) fun ws s2 ⟨zs, G, I2, rz, l2, q2⟩ => ⟨I2.kIn, ?_⟩) hpl
  rw [hks]
  exact run_fnN F hr hb hx I2 .nil rz rfl l2 q2⟩
theorem vals_reverse : ∀ {zs : List V} {ws : List Value}, Vals zs ws → Vals zs.reverse ws.reverse
  | _, _, .nil => .nil
  | _, _, .cons h t => by
    rw [List.reverse_cons, List.reverse_cons]
    exact Vals.append (vals_reverse t) (.cons h .nil)
theorem kb_rev {K : PySem.W.Frag} {x qual : Str} {st : Stmt} {f : Addr} {fd : FuncData} {p q : Str} (F : Fun K x qual st f fd)
    (h : ∀ (kV doc pm : Value) (an : Option Addr) (cdv ct a b : Value), bindArgs (PySem.W.fnOf x qual (defArgs st) (defBody st) (defScope st) .none kV doc pm an cdv ct) ⟨[], [(q, a), (p, b)]⟩ = pure [(p, b), (q, a)]) : KBn K fd [p, q] 0 [q, p] (fun _ ws => ws.reverse) (fun _ zs => zs.reverse) := by
  obtain ⟨oc, od, kV, doc, pm, an, cdv, ct, osl, rfl, lk, hcd⟩ := F.ex
  refine ⟨fun s us ws X l1 l2 => ?_, fun _ r => vals_reverse r⟩
  match us, ws, l1, l2 with
  | [], [a, b], _, _ => exact .of_eq (h kV doc pm an cdv ct a b)
theorem kb_one {K : PySem.W.Frag} {x qual : Str} {st : Stmt} {f : Addr} {fd : FuncData} {p : Str} (F : Fun K x qual st f fd)
    (h : ∀ (kV doc pm : Value) (an : Option Addr) (cdv ct a : Value), bindArgs (PySem.W.fnOf x qual (defArgs st) (defBody st) (defScope st) .none kV doc pm an cdv ct) ⟨[], [(p, a)]⟩ = pure [(p, a)]) : KBn K fd [p] 0 [p] (fun _ ws => ws) (fun _ zs => zs) := by
  obtain ⟨oc, od, kV, doc, pm, an, cdv, ct, osl, rfl, lk, hcd⟩ := F.ex
  refine ⟨fun s us ws X l1 l2 => ?_, fun _ r => r⟩
  match us, ws, l1, l2 with
  | [], [a], _, _ => exact .of_eq (h kV doc pm an cdv ct a)
/-! ### sums -/
def MonSm (m : List NI) : Prop := ∀ x ∈ m, ∀ ms, x.1 = monK ms → ms.length < sizeLine
theorem keys_put {m : List NI} {k j : NestedKey} {c : Int} (h : j ∈ keysI (putI m k c)) : j = k ∨ j ∈ keysI m := by
  rw [keysI_put] at h
  split at h
  · exact .inr h
  · rcases List.mem_append.mp h with h | h
    · exact .inr h
    · exact .inl (List.mem_singleton.mp h)
theorem keys_drop {m : List NI} {k j : NestedKey} (h : j ∈ keysI (dropI m k)) : j ∈ keysI m := by
  obtain ⟨x, hx, rfl⟩ := List.mem_map.mp h
  exact List.mem_map.mpr ⟨x, (List.mem_filter.mp hx).1, rfl⟩
theorem keys_plus {n : List NI} : ∀ {m : List NI} {j : NestedKey}, j ∈ keysI (plusI m n) → j ∈ keysI m ∨ j ∈ keysI n := by
  induction n with
  | nil => exact fun h => .inl h
  | cons x n ih =>
    intro m j h
    rcases ih (m := plusOne m x) h with h | h
    · unfold plusOne at h
      split at h
      · rcases keys_put h with h | h
        · exact .inr (by rw [h]; exact List.mem_cons_self ..)
        · exact .inl h
      · exact .inl (keys_drop h)
    · exact .inr (List.mem_cons_of_mem _ h)
theorem monsI_keys {m : List NI} : MonsI m ↔ ∀ k ∈ keysI m, IsMon k := by
  constructor
  · intro h k hk
    obtain ⟨x, hx, rfl⟩ := List.mem_map.mp hk
    exact h x hx
  · intro h x hx
    exact h x.1 (List.mem_map.mpr ⟨x, hx, rfl⟩)
theorem monsI_plus {m n : List NI} (h : MonsI m) (g : MonsI n) : MonsI (plusI m n) := monsI_keys.mpr fun k hk => (keys_plus hk).elim (monsI_keys.mp h k) (monsI_keys.mp g k)
theorem keysI_neg (n : List NI) : keysI (negI n) = keysI n := keysI_map n (· * -1)
theorem monsI_neg {n : List NI} (h : MonsI n) : MonsI (negI n) := monsI_keys.mpr (by rw [keysI_neg]; exact monsI_keys.mp h)
structure AddTxt (P : Program) (w : World) (K : PySem.W.Frag) (mg : Str → Option Value) (base : Heap) (fB fP fO : Addr) (dB dP dO : FuncData) : Prop where
  okB : FnOk P w K mg base CX0 1 fB dB ["p"] (spBy K w)
  bB : Binds K dB ["p"] []
  gB : mg "_by_monomials" = some (.ref fB)
  kB : PySem.W.keepIn K (.ref fB) = true
  okP : FnOk P w K mg base CX0 1 fP dP ["p", "q"] (spPlus K w)
  bP : Binds K dP ["p", "q"] []
  gP : mg "plus" = some (.ref fP)
  kP : PySem.W.keepIn K (.ref fP) = true
  okO : FnOk P w K mg base CX0 2 fO dO ["table"] (spOf K w)
  bO : Binds K dO ["table"] []
  gO : mg "_of_monomials" = some (.ref fO)
  kO : PySem.W.keepIn K (.ref fO) = true
structure LessTxt (P : Program) (w : World) (K : PySem.W.Frag) (mg : Str → Option Value) (base : Heap) (fM : Addr) (dM : FuncData) : Prop where
  okM : FnOk P w K mg base CX0 2 fM dM ["p", "q"] (spMinus K w)
  bM : Binds K dM ["p", "q"] []
  gM : mg "minus" = some (.ref fM)
  kM : PySem.W.keepIn K (.ref fM) = true
/-- two polynomials, op what the table's sum is -/
def spSum (K : PySem.W.Frag) (op : List NI → List NI → List NI) : Sp := fun vs H Q _ => ∃ (p q : Addr) (m n : List NI), vs = [.ref p, .ref q] ∧ PolyV K H p m ∧ PolyV K H q n ∧ MonSm m ∧ MonSm n ∧ m.length + n.length < sizeLine ∧ (∀ x ∈ n, x.2 ≠ 0) ∧ Fits (op m n) ∧
  ∀ (r : Addr) (H' : Hp), Same H H' → PolyV K H' r (riseI (op m n)) → Q (.ref r) H'
def lessI (m n : List NI) : List NI := plusI m (negI n)
section
variable {P : Program} {w : World} {K : PySem.W.Frag} {mg : Str → Option Value} {base : Heap} {fB fP fO fM : Addr} {dB dP dO dM : FuncData}
theorem scAdded : FnScope ["p", "q"] ["p", "q"] (defScope sAdded) := ⟨rfl, rfl, rfl, by decide +kernel, rfl, by decide +kernel, by decide +kernel⟩
theorem same_none {H H' : Hp} {a : Addr} (s : Same H H') (h : H' a = none) : H a = none := by
  cases q : H a with
  | none => rfl
  | some o => rw [s _ _ q] at h; cases h
theorem ok_added {f : Addr} {fd : FuncData} (F : Fun K "added" "added" sAdded f fd) (T : AddTxt P w K mg base fB fP fO dB dP dO) : FnOk P w K mg base CX0 3 f fd ["p", "q"] (spSum K plusI) := by
  refine F.ok scAdded (fun vs H Q E h => ?_) (fun cdv A outer s H vs Q E hr h => ?_)
  · obtain ⟨p, q, m, n, rfl, _⟩ := h
    rfl
  · obtain ⟨p, q, m, n, rfl, hp, hq, sm, sn, hl, nz, fi, go⟩ := h
    have h1 : Room 1 _ := hr.mono (by decide)
    refine ⟨_, pss_one (ps_ret (pe_call T.okO hr rfl T.gO T.kO T.bO .nil pass0 (pa_cons (pe_call T.okP h1 rfl T.gP T.kP T.bP .nil pass0 (pa_cons (pe_call T.okB h1 rfl T.gB T.kB T.bB .nil pass0 (pa_cons (pv 0) pa_nil)) (pa_cons (pe_call T.okB h1 rfl T.gB T.kB T.bB .nil pass0 (pa_cons (pv 1) pa_nil)) pa_nil))) pa_nil))), ?_⟩
    refine ⟨_, rfl, p, m, rfl, hp, by omega, sm, fun d1 H1 s1 n1 e1 => ?_⟩
    refine ⟨_, rfl, q, n, rfl, hq.up (same_tups s1), by omega, sn, fun d2 H2 s2 n2 e2 => ?_⟩
    refine ⟨d1, d2, m, n, rfl, e1.up s2, e2, hl, nz, fun d3 H3 s3 n3 e3 => ?_⟩
    exact ⟨d3, plusI m n, rfl, e3, monsI_plus hp.2.1 hq.2.1, fi, fun r H4 s4 h4 => go r H4 (fun a o e => s4 a o (s3 a o (s2 a o (s1 a o e)))) h4⟩
/-! ### constant -/
def spCheckK : Sp := fun vs H Q _ => ∃ (d : Addr) (k : Int), vs = [.ref d] ∧ H d = some (.dK (numK k)) ∧ (k.natAbs : Int) < tooGreat ∧ ∀ (H' : Hp), Same H H' → Q .non H'
theorem ok_checkK {f : Addr} {fd : FuncData} (F : Fun K "_check_limits" "_check_limits" sCheck f fd) (T : LimTxt K mg) : FnOk P w K mg base CX0 1 f fd ["table"] spCheckK := by
  refine F.ok scCheck (fun vs H Q E h => ?_) (fun cdv A outer s H vs Q E hr h => ?_)
  · obtain ⟨d, k, rfl, _⟩ := h
    rfl
  · obtain ⟨d, k, rfl, hd, lt, go⟩ := h
    obtain ⟨t1, g1⟩ := T.most
    obtain ⟨t2, g2⟩ := T.great
    refine ⟨_, pss_cons (ps_if (pt_cmpR op_gt (pe_callB call_lenD (by rfl) T.len PySem.boot_len (pa_cons (pv 0) pa_nil)) (pe_glob (v := .int 2000) (by rfl) g1 ⟨t1, rfl⟩) (nomark _)) pss_never pss_nil)
      (pss_one (ps_lock (ps_if (pt_val (pe_callB (cr_any rfl) (by rfl) T.any (by decide +kernel) (pa_cons (pe_lc (own := [("many", 1)]) (g := gName 1) rfl scCheck.nd (pi_values (pv 0))
        (blkOk_by (own := [("many", 1)]) (N := ["table", "many"]) (sc := defScope sCheck) (by decide +kernel)) (fun _ _ _ _ _ => pg_name (i := 1) scCheck.nd rfl (Or.inl rfl)) (fun _ _ _ _ _ => pts_nil)
        (te := tOp (rI0 fun i j => .bl (decide (j ≤ i))) (tCB (rAbs) (tCons (tVar 1) tNil)) (tC (.int tooGreat)))
        (fun _ _ _ _ _ => pe_cmpR op_ge (pe_callB (show CallR _ (.builtin "abs") rAbs from call_abs) (by rfl) T.abs (by decide +kernel) (pa_cons (pv 1) pa_nil)) (pe_glob (v := .int tooGreat) (by rfl) g2 ⟨t2, rfl⟩) (nomark _))) pa_nil))) pss_never pss_nil))), ?_⟩
    have l1 : (numK k).length ≤ 1 := by
      unfold numK
      split <;> simp
    refine ⟨_, rfl, d, _, rfl, hd, _, _, rfl, rfl, _, rfl, ifN (decide_eq_false (by omega)) ?_⟩
    refine ⟨d, _, hd, True.intro, fun od => ?_⟩
    refine ⟨_, rfl, d, od, _, rfl, upd_same, fun L nL => ?_⟩
    have Ld : L ≠ d := fun z => by rw [z, upd_same] at nL; cases nL
    rw [upd_ne Ld] at nL
    refine blk_n (o := fun _ => .lst []) (n := (numK k).length) (fun (i : Nat) (F : Hp) => Lk d od (.dK (numK k)) H F ∧ F L = some (.lst (List.replicate i (V.bl false))))
      ⟨Lk.start.set Ld nL, upd_same⟩ (fun i F hi ⟨l, _⟩ => ⟨l.1, hi⟩) (fun F ⟨l, _⟩ => ⟨l.1, Nat.le_refl _⟩) (fun i F x F' hi ⟨l, h1⟩ hy => ?_) (fun F ⟨l, h1⟩ => ?_)
    · obtain ⟨rfl, e, he⟩ := hy
      have hx : x = .int k := by
        have hm := List.mem_of_getElem? he
        unfold numK at hm
        split at hm
        · cases hm
        · rw [List.mem_singleton] at hm
          exact (Prod.mk.inj hm).2
      subst hx
      have no : decide (tooGreat ≤ (if k < 0 then -k else k)) = false := by
        refine decide_eq_false ?_
        split <;> omega
      have ll : (List.replicate i (V.bl false)).length < sizeLine := by
        rw [List.length_replicate, sizeLine_eq]
        omega
      refine ⟨rfl, _, rfl, k, rfl, _, _, rfl, rfl, _, h1, ll, l.set Ld nL, ?_⟩
      rw [upd_same, List.replicate_succ']
      show some (HO.lst (_ ++ [V.bl (decide (tooGreat ≤ (if k < 0 then -k else k)))])) = _
      rw [no]
    · refine ⟨L, List.replicate (numK k).length false, rfl, SqL.of (by rw [List.map_replicate]; exact h1), ?_⟩
      have none' : (List.replicate (numK k).length false).any id = false := by
        rw [List.any_eq_false]
        intro b hb
        rw [List.eq_of_mem_replicate hb]
        simp
      rw [none']
      exact ⟨_, rfl, ifN rfl ⟨l.1, go _ (l.done hd)⟩⟩
def constI (k : Int) : List NI := if k = 0 then [] else [(monK [], k)]
def spConst (K : PySem.W.Frag) : Sp := fun vs H Q _ => ∃ k : Int, vs = [.int k] ∧ (k.natAbs : Int) < tooGreat ∧ ∀ (r : Addr) (H' : Hp), Same H H' → PolyV K H' r (constI k) → Q (.ref r) H'
end
end K1P

set_option Elab.async false
set_option linter.all false
set_option maxRecDepth 100000
set_option maxHeartbeats 4000000
set_option autoImplicit false
/-! Sums, differences, products of polynomials by what they sum up to; polynomials of tables. Maths, for the laws with a tape (k03, k04, k05). -/
namespace K1P
open PySem L2 K1D
def v0 (m : List NI) (k : NestedKey) : Int := (valI m k).getD 0
def NzI (m : List NI) : Prop := ∀ x ∈ m, x.2 ≠ 0
def nzI (m : List NI) : List NI := m.filter fun x => decide (x.2 ≠ 0)
theorem v0_put (m : List NI) (k : NestedKey) (c : Int) (j : NestedKey) : v0 (putI m k c) j = if j = k then c else v0 m j := by
  unfold v0
  rw [valI_put]
  split <;> rfl
theorem v0_plusOne (m : List NI) (x : NI) (j : NestedKey) : v0 (plusOne m x) j = if j = x.1 then v0 m j + x.2 else v0 m j := by
  unfold plusOne
  split
  · rw [v0_put]
    by_cases h : j = x.1
    · rw [if_pos h, if_pos h, h]; rfl
    · rw [if_neg h, if_neg h]
  · rename_i z
    unfold v0 at *
    rw [valI_drop]
    by_cases h : j = x.1
    · rw [if_pos h, if_pos h, h]
      simp only [ne_eq, Decidable.not_not] at z
      rw [z]
      rfl
    · rw [if_neg h, if_neg h]
theorem v0_cons (x : NI) (n : List NI) (k : NestedKey) : v0 (x :: n) k = if k = x.1 then x.2 else v0 n k := by
  unfold v0
  rw [valI_cons]
  by_cases h : k = x.1
  · rw [if_pos h, if_pos h.symm]; rfl
  · rw [if_neg h, if_neg fun z => h z.symm]
theorem v0_out {n : List NI} {k : NestedKey} (h : k ∉ keysI n) : v0 n k = 0 := by
  unfold v0
  rw [valI_none.mpr h]
  rfl
theorem v0_plus {n : List NI} : ∀ {m : List NI}, (keysI n).Nodup → ∀ k, v0 (plusI m n) k = v0 m k + v0 n k := by
  induction n with
  | nil => intro m _ k; show v0 m k = v0 m k + 0; omega
  | cons x n ih =>
    intro m nd k
    have nd' : x.1 ∉ keysI n ∧ (keysI n).Nodup := List.nodup_cons.mp nd
    show v0 (plusI (plusOne m x) n) k = _
    rw [ih nd'.2, v0_plusOne, v0_cons]
    by_cases h : k = x.1
    · rw [if_pos h, if_pos h, h, v0_out nd'.1]
      omega
    · rw [if_neg h, if_neg h]
theorem nz_put {m : List NI} (h : NzI m) {k : NestedKey} {c : Int} (hc : c ≠ 0) : NzI (putI m k c) := fun x hx => by
  unfold putI at hx
  split at hx
  · obtain ⟨y, hy, e⟩ := List.mem_map.mp hx
    split at e
    · rw [← e]; exact hc
    · rw [← e]; exact h y hy
  · rcases List.mem_append.mp hx with q | q
    · exact h x q
    · rw [List.mem_singleton.mp q]; exact hc
theorem nz_plus {n : List NI} : ∀ {m : List NI}, NzI m → NzI (plusI m n) := by
  induction n with
  | nil => exact fun h => h
  | cons x n ih =>
    intro m h
    refine ih (m := plusOne m x) ?_
    unfold plusOne
    split
    · rename_i z; exact nz_put h z
    · exact fun y hy => h y (List.mem_filter.mp hy).1
theorem v0_neg (n : List NI) (k : NestedKey) : v0 (negI n) k = - v0 n k := by
  induction n with
  | nil => rfl
  | cons x n ih =>
    show v0 ((x.1, x.2 * -1) :: negI n) k = _
    rw [v0_cons, v0_cons, ih]
    split <;> omega
theorem nz_neg {n : List NI} (h : NzI n) : NzI (negI n) := fun x hx => by
  obtain ⟨y, hy, rfl⟩ := List.mem_map.mp hx
  have := h y hy
  show y.2 * -1 ≠ 0
  omega
end K1P
namespace K2P
open PySem L2 K1D K1P
open LamX (Tabs ExtN TabB)
def niT (T : Poly) : List NI := T.map fun t => (K2P.monK t.1, t.2)
theorem valI_ni (T : Poly) (m : Mon) : valI (niT T) (K2P.monK m) = valT T m := by
  unfold valI valT niT
  rw [List.find?_map, Option.map_map]
  congr 1
  congr 1
  funext x
  show decide (K2P.monK x.1 = K2P.monK m) = decide (x.1 = m)
  exact decide_eq_decide.mpr ⟨fun h => monK_inj h, fun h => by rw [h]⟩
theorem putI_ni (T : Poly) (m : Mon) (c : Int) : putI (niT T) (K2P.monK m) c = niT (putT T m c) := by
  unfold putI putT
  rw [valI_ni]
  split
  · unfold niT
    rw [List.map_map, List.map_map]
    refine List.map_congr_left fun x _ => ?_
    show (if K2P.monK x.1 = K2P.monK m then (K2P.monK x.1, c) else (K2P.monK x.1, x.2)) = (fun t : Term => (K2P.monK t.1, t.2)) (if x.1 = m then (x.1, c) else x)
    by_cases q : x.1 = m
    · rw [if_pos q, if_pos (by rw [q])]
    · rw [if_neg q, if_neg fun h => q (monK_inj h)]
  · unfold niT
    rw [List.map_append]
    rfl
theorem keys_ni (T : Poly) : keysI (niT T) = (T.map (·.1)).map K2P.monK := by
  unfold keysI niT
  rw [List.map_map, List.map_map]
  rfl
theorem nodup_ni {T : Poly} : (keysI (niT T)).Nodup ↔ (T.map (·.1)).Nodup := by
  rw [keys_ni, List.Nodup, List.pairwise_map]
  exact ⟨fun h => h.imp fun {a b} ne e => ne (by rw [e]), fun h => h.imp fun {a b} ne e => ne (monK_inj e)⟩
theorem mons_ni (T : Poly) : MonsI (niT T) := fun x hx => by
  obtain ⟨t, _, rfl⟩ := List.mem_map.mp hx
  exact ⟨t.1, rfl⟩
theorem len_ni (T : Poly) : (niT T).length = T.length := List.length_map ..
def DictM (K : PySem.W.Frag) (w : World) (H : Hp) (d : Addr) (T : Poly) : Prop := DictI K w H d (niT T)
theorem DictM.nd {K : PySem.W.Frag} {w : World} {H : Hp} {d : Addr} {T : Poly} (h : DictM K w H d T) : (T.map (·.1)).Nodup := by
  obtain ⟨kvs, h1, h2, h3, h4⟩ := h
  exact nodup_ni.mp h4
structure TabM (ns : List Str) (e c a : Nat) (T : Poly) : Prop where
  ok : ∀ t ∈ T, MonOk t.1 ∧ ∀ f ∈ t.1, f.1 ∈ ns ∧ f.2 ≤ (e : Int)
  sz : ∀ t ∈ T, t.2.natAbs ≤ c
  len : T.length ≤ a
theorem TabM.nil {ns : List Str} {e c : Nat} : TabM ns e c 0 [] := ⟨(fun x h => (nomatch h)), (fun x h => (nomatch h)), Nat.le_refl _⟩
theorem mem_putG {T : Poly} {m : Mon} {c : Int} {x : Term} (h : x ∈ putT T m c) : x ∈ T ∨ (x.1 = m ∧ x.2 = c) := by
  unfold putT at h
  split at h
  · obtain ⟨y, hy, e⟩ := List.mem_map.mp h
    split at e
    · rename_i q
      rw [← e]
      exact .inr ⟨q, rfl⟩
    · rw [← e]
      exact .inl hy
  · rcases List.mem_append.mp h with h | h
    · exact .inl h
    · rw [List.mem_singleton.mp h]
      exact .inr ⟨rfl, rfl⟩
theorem TabM.put {ns : List Str} {e c a : Nat} {T : Poly} (h : TabM ns e c a T) {m : Mon} {z : Int} (hm : MonOk m) (hn : ∀ f ∈ m, f.1 ∈ ns ∧ f.2 ≤ (e : Int)) (hz : z.natAbs ≤ c) : TabM ns e c (a + 1) (putT T m z) where
  ok := fun t ht => (mem_putG ht).elim (h.ok t) fun q => by rw [q.1]; exact ⟨hm, hn⟩
  sz := fun t ht => (mem_putG ht).elim (h.sz t) fun q => by rw [q.2]; exact hz
  len := Nat.le_trans (len_putT T m z) (Nat.succ_le_succ h.len)
theorem TabM.mono {ns : List Str} {e c a b : Nat} {T : Poly} (h : TabM ns e c a T) (le : a ≤ b) : TabM ns e c b T := ⟨h.ok, h.sz, Nat.le_trans h.len le⟩
def nzP (T : Poly) : Poly := T.filter fun t => decide (t.2 ≠ 0)
theorem tot_nz : ∀ (T : Poly) (f : Expo), tot (liftP (nzP T)) f = tot (liftP T) f
  | [], f => rfl
  | t :: T, f => by
    unfold nzP
    rw [List.filter_cons]
    by_cases q : t.2 = 0
    · rw [if_neg (by simp [q])]
      show tot (liftP (nzP T)) f = (if exM t.1 = f then t.2 else 0) + tot (liftP T) f
      rw [tot_nz T f, q]
      simp
    · rw [if_pos (by simp [q])]
      show (if exM t.1 = f then t.2 else 0) + tot (liftP (nzP T)) f = (if exM t.1 = f then t.2 else 0) + tot (liftP T) f
      rw [tot_nz T f]
theorem lift_nd {T : Poly} (ok : ∀ t ∈ T, MonOk t.1) (nd : (T.map (·.1)).Nodup) : ((liftP T).map (·.1)).Nodup := by
  unfold liftP
  rw [List.map_map, List.Nodup, List.pairwise_map]
  exact (List.pairwise_map.mp nd).imp_of_mem fun {a b} ha hb ne e => ne ((ok a ha).ext (ok b hb) e)
theorem val_lift {T : Poly} {m : Mon} (ok : ∀ t ∈ T, MonOk t.1) (hm : MonOk m) : valT (liftP T) (exM m) = valT T m := by
  induction T with
  | nil => rfl
  | cons t T ih =>
    show valT ((exM t.1, t.2) :: liftP T) (exM m) = _
    rw [valT_cons, valT_cons, ih fun x hx => ok x (List.mem_cons_of_mem _ hx)]
    by_cases q : t.1 = m
    · rw [if_pos q, if_pos (by rw [q])]
    · rw [if_neg q, if_neg fun e => q ((ok t List.mem_cons_self).ext hm e)]
def termLe : Term → Term → Bool := PySem.W.dataLe false fun t => (termK t).data
theorem rise_ni (T : Poly) : riseI (niT T) = niT (T.mergeSort termLe) := by
  unfold riseI niT
  exact (List.map_mergeSort (l := T) (f := fun t : Term => ((K2P.monK t.1, t.2) : NI)) (r := termLe) (s := PySem.W.dataLe false fun x : NI => (pairK x).data) (fun a _ b _ => rfl)).symm
theorem nz_ni (T : Poly) : nzI (niT T) = niT (nzP T) := by
  unfold nzI niT nzP
  rw [List.filter_map]
  rfl
theorem polyOk_sort {T : Poly} (ok : ∀ t ∈ T, MonOk t.1) (nz : ∀ t ∈ T, t.2 ≠ 0) (nd : (T.map (·.1)).Nodup) : PolyOk (T.mergeSort termLe) ∧ ∀ f, semP (T.mergeSort termLe) f = tot (liftP T) f := by
  have ps : (T.mergeSort termLe).Perm T := List.mergeSort_perm _ _
  have nP : T.Nodup := List.Pairwise.of_map (S := (· ≠ ·)) (fun x : Term => x.1) (fun a b ne e => ne (by rw [e])) nd
  have up := sortK_up (enc := termK) al_term (fun _ _ => termK_inj) nP
  have nS : ((T.mergeSort termLe).map (·.1)).Nodup := (ps.map (fun x : Term => x.1)).nodup_iff.mpr nd
  refine ⟨⟨fun t ht => ⟨ok t (ps.mem_iff.mp ht), nz t (ps.mem_iff.mp ht)⟩, ?_⟩, fun f => ?_⟩
  · exact (List.Pairwise.and up (List.pairwise_map.mp nS)).imp fun {a b} ⟨h, ne⟩ => by rw [ltK_termK ne] at h; exact h
  · exact tot_permA (ps.map _) f
def polyT (T : Poly) : Poly := (nzP T).mergeSort termLe
theorem nzP_nd {T : Poly} (nd : (T.map (·.1)).Nodup) : ((nzP T).map (·.1)).Nodup := nd.sublist (List.filter_sublist.map _)
theorem polyT_ok {T : Poly} (ok : ∀ t ∈ T, MonOk t.1) (nd : (T.map (·.1)).Nodup) : PolyOk (polyT T) ∧ ∀ f, semP (polyT T) f = tot (liftP T) f := by
  obtain ⟨h1, h2⟩ := polyOk_sort (T := nzP T) (fun t ht => ok t (List.mem_filter.mp ht).1) (fun t ht => by simpa using (List.mem_filter.mp ht).2) (nzP_nd nd)
  exact ⟨h1, fun f => by rw [← tot_nz]; exact h2 f⟩
theorem polyK_ni (T : Poly) : K1P.polyK (niT T) = K2P.polyK T := by
  unfold K1P.polyK K2P.polyK niT
  rw [List.map_map]
  rfl
theorem polyV_iff {K : PySem.W.Frag} {H : Hp} {a : Addr} {T : Poly} (h : PolyV K H a (niT T)) : KeyV K H (K2P.polyK T) (.ref a) := by
  have := h.1
  rw [polyK_ni] at this
  exact this
theorem polyV_of {K : PySem.W.Frag} {H : Hp} {a : Addr} {T : Poly} (h : KeyV K H (K2P.polyK T) (.ref a)) (ok : PolyOk T) : PolyV K H a (niT T) := ⟨by rw [polyK_ni]; exact h, mons_ni T, nodup_ni.mpr ok.nd⟩
theorem polyT_tame {ns : List Str} {e c a b : Nat} {T : Poly} (h : TabM ns e c a T) (nd : (T.map (·.1)).Nodup) (cb : c < 2 ^ b) (a4 : a ≤ 4000) : Tame ns e b (polyT T) := by
  have ps : (polyT T).Perm (nzP T) := List.mergeSort_perm _ _
  have mem : ∀ t ∈ polyT T, t ∈ T := fun t ht => (List.mem_filter.mp (ps.mem_iff.mp ht)).1
  refine ⟨(polyT_ok (fun t ht => (h.ok t ht).1) nd).1, fun t ht f hf => (h.ok t (mem t ht)).2 f hf, fun t ht => Nat.lt_of_le_of_lt (h.sz t (mem t ht)) cb, ?_⟩
  rw [ps.length_eq]
  exact Nat.le_trans (Nat.le_trans (List.length_filter_le _ _) h.len) a4
theorem sem_get {T : Poly} {m : Mon} (ok : ∀ t ∈ T, MonOk t.1) (nd : (T.map (·.1)).Nodup) (hm : MonOk m) : tot (liftP T) (exM m) = getT T m := by
  rw [← getT_tot (lift_nd ok nd)]
  unfold getT
  rw [val_lift ok hm]
theorem v0_ni (T : Poly) (m : Mon) : v0 (niT T) (K2P.monK m) = getT T m := by
  unfold v0 getT
  rw [valI_ni]
theorem un_ni : ∀ {m : List NI}, (∀ x ∈ m, ∃ a, MonOk a ∧ x.1 = K2P.monK a) → ∃ T, m = niT T ∧ ∀ t ∈ T, MonOk t.1
  | [], _ => ⟨[], rfl, fun t h => (nomatch h)⟩
  | x :: m, h => by
    obtain ⟨T, e, ok⟩ := un_ni (m := m) fun y hy => h y (List.mem_cons_of_mem _ hy)
    obtain ⟨a, oa, ea⟩ := h x List.mem_cons_self
    refine ⟨(a, x.2) :: T, ?_, fun t ht => ?_⟩
    · show x :: m = (K2P.monK a, x.2) :: niT T
      rw [← ea, ← e]
    · rcases List.mem_cons.mp ht with q | q
      · rw [q]; exact oa
      · exact ok t q
structure IsSum (p q r : Poly) : Prop where
  ok : PolyOk r
  sem : ∀ f, semP r f = semP p f + semP q f
theorem keys_of_ok {p : Poly} (hp : PolyOk p) : ∀ k ∈ keysI (niT p), ∃ a, MonOk a ∧ k = K2P.monK a := fun k hk => by
  rw [keys_ni] at hk
  obtain ⟨a, ha, rfl⟩ := List.mem_map.mp hk
  obtain ⟨t, ht, rfl⟩ := List.mem_map.mp ha
  exact ⟨_, (hp.ok t ht).1, rfl⟩
theorem plus_ni {p q : Poly} (hp : PolyOk p) (hq : PolyOk q) : ∃ r, riseI (plusI (niT p) (niT q)) = niT r ∧ IsSum p q r ∧ (r.map (·.2)).Perm ((plusI (niT p) (niT q)).map (·.2)) := by
  have nd1 : (keysI (niT p)).Nodup := nodup_ni.mpr hp.nd
  have nd2 : (keysI (niT q)).Nodup := nodup_ni.mpr hq.nd
  have nz1 : NzI (niT p) := fun x hx => by
    obtain ⟨t, ht, rfl⟩ := List.mem_map.mp hx
    exact (hp.ok t ht).2
  obtain ⟨T, eT, oT⟩ := un_ni (m := plusI (niT p) (niT q)) fun x hx => (keys_plus (List.mem_map.mpr ⟨x, hx, rfl⟩)).elim (keys_of_ok hp _) (keys_of_ok hq _)
  have ndT : (T.map (·.1)).Nodup := by
    have := nodup_plusI (n := niT q) nd1
    rw [eT] at this
    exact nodup_ni.mp this
  have nzT : ∀ t ∈ T, t.2 ≠ 0 := fun t ht => by
    have := nz_plus (n := niT q) nz1
    rw [eT] at this
    exact this (K2P.monK t.1, t.2) (List.mem_map.mpr ⟨t, ht, rfl⟩)
  obtain ⟨ok, sem⟩ := polyOk_sort oT nzT ndT
  refine ⟨T.mergeSort termLe, by rw [eT]; exact rise_ni T, ⟨ok, fun f => ?_⟩, ?_⟩
  · rw [sem]
    by_cases hf : ∃ a, MonOk a ∧ exM a = f
    · obtain ⟨a, oa, rfl⟩ := hf
      unfold semP
      rw [sem_get oT ndT oa, sem_get (fun t ht => (hp.ok t ht).1) hp.nd oa, sem_get (fun t ht => (hq.ok t ht).1) hq.nd oa, ← v0_ni, ← v0_ni, ← v0_ni, ← eT, v0_plus nd2]
    · have out : ∀ {S : Poly}, (∀ t ∈ S, MonOk t.1) → tot (liftP S) f = 0 := fun {S} oS => tot_none fun x hx e => by
        obtain ⟨t, ht, rfl⟩ := List.mem_map.mp hx
        exact hf ⟨t.1, oS t ht, e⟩
      unfold semP
      rw [out oT, out fun t ht => (hp.ok t ht).1, out fun t ht => (hq.ok t ht).1]
      rfl
  · rw [eT]
    have e : (niT T).map (·.2) = T.map (·.2) := by
      unfold niT
      rw [List.map_map]
      rfl
    rw [e]
    exact (List.mergeSort_perm T termLe).map _
theorem IsSum.eq {p q r s : Poly} (h : IsSum p q r) (g : IsSum p q s) : r = s := h.ok.ext g.ok fun f => by rw [h.sem, g.sem]
theorem monSm_of {L : List Str} {e b : Nat} {p : Poly} (h : Tame L e b p) (nm : NamesOk L) : MonSm (niT p) := fun x hx ms em => by
  obtain ⟨t, ht, rfl⟩ := List.mem_map.mp hx
  have e2 : t.1 = ms := K2P.monK_inj em
  rw [← e2]
  have := mon_len (h.ok.ok t ht).1 fun f hf => (h.at_ t ht f hf).1
  have := nm.few
  rw [sizeLine_eq]
  omega
def constP (k : Int) : Poly := if k = 0 then [] else [([], k)]
theorem constP_ok (k : Int) : PolyOk (constP k) := by
  unfold constP
  split
  · exact ⟨(fun t h => (nomatch h)), .nil⟩
  · rename_i h
    refine ⟨fun t ht => ?_, List.pairwise_singleton _ _⟩
    rw [List.mem_singleton.mp ht]
    exact ⟨⟨.nil, fun f h => (nomatch h)⟩, h⟩
theorem constP_ni (k : Int) : niT (constP k) = constI k := by
  unfold constP constI
  split <;> rfl
theorem constP_tame {L : List Str} {k : Int} {e b : Nat} (h : k.natAbs < 2 ^ b) : Tame L e b (constP k) := by
  refine ⟨constP_ok k, fun t ht f hf => ?_, fun t ht => ?_, ?_⟩
  · unfold constP at ht
    split at ht
    · cases ht
    · rw [List.mem_singleton.mp ht] at hf
      cases hf
  · unfold constP at ht
    split at ht
    · cases ht
    · rw [List.mem_singleton.mp ht]
      exact h
  · unfold constP
    split
    · exact Nat.zero_le _
    · show 1 ≤ 4000
      decide
theorem DictM.ext {K : PySem.W.Frag} {w : World} {H G : Hp} {d : Addr} {T : Poly} (h : DictM K w H d T) (x : ExtN H G) : DictM K w G d T := by
  obtain ⟨kvs, h1, h2, h3⟩ := h
  exact ⟨kvs, x _ _ h1 (fun ps z => by unfold dN at z; cases z), h2.up ⟨fun b ys e => x b _ e fun ps z => (nomatch z), fun b o ys e => x b _ e fun ps z => (nomatch z)⟩, h3⟩
theorem prod_ext {a b c d : List (Expo × Int)} (h : ∀ f, tot a f = tot b f) (g : ∀ f, tot c f = tot d f) (f : Expo) : tot (prodE a c) f = tot (prodE b d) f := tot_prod_ext addE addE_comm h g f
theorem IsProd.comm {p q r : Poly} (h : IsProd p q r) : IsProd q p r := ⟨h.ok, fun f => by rw [h.sem]; exact tot_prod_comm addE addE_comm f _ _⟩
theorem IsProd.eq {p q r s : Poly} (h : IsProd p q r) (g : IsProd p q s) : r = s := h.ok.ext g.ok fun f => by rw [h.sem, g.sem]
theorem isProd_nil (p : Poly) : IsProd p [] [] := ⟨⟨(fun t h => (nomatch h)), .nil⟩, fun f => by
  rw [show tot (prodE (liftP p) (liftP [])) f = tot (prodE (liftP []) (liftP p)) f from tot_prod_comm addE addE_comm f _ _]
  rfl⟩
theorem isProd_one {p : Poly} (hp : PolyOk p) : IsProd (constP 1) p p := ⟨hp, fun f => by
  show tot (liftP p) f = tot (prodL addE [(oneE, 1)] (liftP p)) f
  rw [prodL_one addE oneE addE_one]⟩
theorem tot_abs : ∀ (l : List (Expo × Int)) (c : Nat) (f : Expo), (∀ x ∈ l, x.2.natAbs ≤ c) → (tot l f).natAbs ≤ l.length * c
  | [], _, _, _ => Nat.zero_le _
  | x :: l, c, f, h => by
    have ih := tot_abs l c f fun y hy => h y (List.mem_cons_of_mem _ hy)
    have hx := h x List.mem_cons_self
    rw [List.length_cons, Nat.succ_mul]
    show ((if x.1 = f then x.2 else 0) + tot l f).natAbs ≤ _
    split <;> omega
theorem len_prodE (p q : List (Expo × Int)) : (prodE p q).length = p.length * q.length := by
  unfold prodE prodL rowL
  induction p with
  | nil => simp
  | cons x p ih => rw [List.flatMap_cons, List.length_append, List.length_map, ih, List.length_cons, Nat.succ_mul, Nat.add_comm]
theorem len_lift (p : Poly) : (liftP p).length = p.length := List.length_map ..
theorem exists_prod {L : List Str} {e1 e2 b1 b2 : Nat} {p q : Poly} (nd : L.Nodup) (tp : Tame L e1 b1 p) (tq : Tame L e2 b2 q) (lt : p.length * q.length ≤ 4000) : ∃ r, IsProd p q r ∧ Tame L (e1 + e2) (b1 + b2 + 12) r ∧ r.length ≤ p.length * q.length := by
  have wp : Within L e1 p := ⟨tp.ok, fun t ht f hf => (tp.at_ t ht f hf).1, fun t ht f hf => (tp.at_ t ht f hf).2⟩
  have wq : Within L e2 q := ⟨tq.ok, fun t ht f hf => (tq.at_ t ht f hf).1, fun t ht f hf => (tq.at_ t ht f hf).2⟩
  have pr := prodR_nz (packT L (e1 + e2 + 1) p) (packT L (e1 + e2 + 1) q)
  have tof := prod_tab nd wp wq (Nat.lt_succ_self _) pr
  obtain ⟨r, hr⟩ := told_of nd (nodup_nzT (nodup_prodT _ _)) (keysIn_of tof pr.nz)
  have sem : ∀ f, semP r f = tot (prodE (liftP p) (liftP q)) f := fun f => by
    by_cases d : Dom L (e1 + e2 + 1) f
    · rw [hr.sem f d]
      exact tof.tot f d
    · rw [hr.out f d, tof.out f d]
  have ln : r.length ≤ p.length * q.length := by
    have := pr.len
    rw [pack_len, pack_len] at this
    rw [hr.len]
    exact this
  refine ⟨r, ⟨hr.ok, sem⟩, ⟨hr.ok, fun t ht f hf => ?_, fun t ht => ?_, Nat.le_trans ln lt⟩, ln⟩
  · have d := hr.dom t ht
    have e := exM_at (hr.ok.ok t ht).1.nd hf
    have g := (hr.ok.ok t ht).1.ge f hf
    have m : f.1 ∈ L := Classical.byContradiction fun n => by
      rw [d.1 f.1 n] at e
      omega
    have := d.2 f.1 m
    rw [e] at this
    exact ⟨m, by omega⟩
  · have e := hr.ok.sem ht
    rw [sem] at e
    have b := tot_abs (prodE (liftP p) (liftP q)) (2 ^ (b1 + b2)) (exM t.1) fun x hx => by
      obtain ⟨y, hy, z, hz, rfl⟩ := mem_prodL.mp hx
      obtain ⟨t1, h1, rfl⟩ := List.mem_map.mp hy
      obtain ⟨t2, h2, rfl⟩ := List.mem_map.mp hz
      show (t1.2 * t2.2).natAbs ≤ _
      rw [Int.natAbs_mul, Nat.pow_add]
      exact Nat.mul_le_mul (Nat.le_of_lt (tp.bits t1 h1)) (Nat.le_of_lt (tq.bits t2 h2))
    rw [e, len_prodE, len_lift, len_lift] at b
    have c : p.length * q.length * 2 ^ (b1 + b2) ≤ 4000 * 2 ^ (b1 + b2) := Nat.mul_le_mul_right _ lt
    have p0 : 0 < 2 ^ (b1 + b2) := Nat.pow_pos (by decide)
    rw [Nat.pow_add, show (2 : Nat) ^ 12 = 4096 from rfl]
    omega
theorem exists_sum {L : List Str} {e b : Nat} {p q : Poly} (tp : Tame L e b p) (tq : Tame L e b q) (lt : p.length + q.length ≤ 4000) : ∃ r, IsSum p q r ∧ Tame L e (b + 1) r ∧ r.length ≤ p.length + q.length := by
  obtain ⟨r, er, is, pm⟩ := plus_ni tp.ok tq.ok
  have ln : r.length ≤ p.length + q.length := by
    have h1 := pm.length_eq
    rw [List.length_map, List.length_map] at h1
    have h2 := len_plusI (niT q) (niT p)
    rw [len_ni, len_ni] at h2
    omega
  have zero : ∀ {z : Poly} {m : Mon}, (∀ t ∈ z, t.1 ≠ m) → PolyOk z → MonOk m → semP z (exM m) = 0 := fun {z m} h oz om => tot_none fun x hx e => by
    obtain ⟨t, ht, rfl⟩ := List.mem_map.mp hx
    exact h t ht ((oz.ok t ht).1.ext om e)
  refine ⟨r, is, ⟨is.ok, fun t ht => ?_, fun t ht => ?_, Nat.le_trans ln lt⟩, ln⟩
  · have e := is.ok.sem ht
    rw [is.sem] at e
    have om := (is.ok.ok t ht).1
    have n0 := (is.ok.ok t ht).2
    by_cases h1 : ∃ u ∈ p, u.1 = t.1
    · obtain ⟨u, hu, eu⟩ := h1
      rw [← eu]
      exact tp.at_ u hu
    · by_cases h2 : ∃ u ∈ q, u.1 = t.1
      · obtain ⟨u, hu, eu⟩ := h2
        rw [← eu]
        exact tq.at_ u hu
      · rw [zero (fun u hu e => h1 ⟨u, hu, e⟩) tp.ok om, zero (fun u hu e => h2 ⟨u, hu, e⟩) tq.ok om] at e
        exact absurd e.symm n0
  · have e0 := is.ok.sem ht
    rw [is.sem] at e0
    have om := (is.ok.ok t ht).1
    have bd : ∀ {z : Poly}, Tame L e b z → (semP z (exM t.1)).natAbs < 2 ^ b := fun {z} tz => by
      by_cases h : ∃ u ∈ z, u.1 = t.1
      · obtain ⟨u, hu, eu⟩ := h
        rw [← eu, tz.ok.sem hu]
        exact tz.bits u hu
      · rw [zero (fun u hu e => h ⟨u, hu, e⟩) tz.ok om]
        exact Nat.pow_pos (by decide)
    have h1 := bd tp
    have h2 := bd tq
    rw [Nat.pow_succ]
    omega
theorem Tame.fits {L : List Str} {e b : Nat} {r : Poly} (h : Tame L e b r) (l : r.length ≤ 2000) (hb : b ≤ 600) : FitsC (r.map (·.2)) := by
  refine ⟨by rw [List.length_map]; exact l, fun z hz => ?_⟩
  obtain ⟨t, ht, rfl⟩ := List.mem_map.mp hz
  have h1 := h.bits t ht
  have h2 : (2 : Nat) ^ b ≤ 2 ^ 600 := Nat.pow_le_pow_right (by decide) hb
  have h3 : (((2 : Nat) ^ 600 : Nat) : Int) < tooGreat := by decide +kernel
  have h4 : t.2.natAbs < 2 ^ 600 := Nat.lt_of_lt_of_le h1 h2
  generalize (2 : Nat) ^ 600 = N at h3 h4
  omega
theorem Tame.mono {L : List Str} {e e' b b' : Nat} {r : Poly} (h : Tame L e b r) (le : e ≤ e') (lb : b ≤ b') : Tame L e' b' r := ⟨h.ok, fun t ht f hf => ⟨(h.at_ t ht f hf).1, by have := (h.at_ t ht f hf).2; omega⟩, fun t ht => Nat.lt_of_lt_of_le (h.bits t ht) (Nat.pow_le_pow_right (by decide) lb), h.len⟩
theorem IsProd.assoc {p q u r1 r2 s : Poly} (h1 : IsProd p q r1) (h2 : IsProd r1 u s) (h3 : IsProd q u r2) : IsProd p r2 s := ⟨h2.ok, fun f => by
  rw [h2.sem, prod_ext (a := liftP r1) (b := prodE (liftP p) (liftP q)) (fun g => h1.sem g) (fun g => rfl) f, prod_ext (a := liftP p) (b := liftP p) (c := liftP r2) (d := prodE (liftP q) (liftP u)) (fun g => rfl) (fun g => h3.sem g) f]
  unfold prodE
  rw [prodL_assoc addE addE_assoc]⟩
theorem Tame.within {L : List Str} {e b : Nat} {p : Poly} (h : Tame L e b p) : Within L e p := ⟨h.ok, fun t ht f hf => (h.at_ t ht f hf).1, fun t ht f hf => (h.at_ t ht f hf).2⟩
/-! ### differences -/
def negP (q : Poly) : Poly := q.map fun t => (t.1, t.2 * -1)
theorem negP_ok {q : Poly} (h : PolyOk q) : PolyOk (negP q) := by
  refine ⟨fun t ht => ?_, ?_⟩
  · obtain ⟨u, hu, rfl⟩ := List.mem_map.mp ht
    refine ⟨(h.ok u hu).1, ?_⟩
    have := (h.ok u hu).2
    show u.2 * -1 ≠ 0
    omega
  · exact List.pairwise_map.mpr h.up
theorem negP_ni (q : Poly) : negI (niT q) = niT (negP q) := by
  unfold negI niT negP
  rw [List.map_map, List.map_map]
  rfl
theorem negP_sem (q : Poly) (f : Expo) : semP (negP q) f = - semP q f := by
  unfold semP
  induction q with
  | nil => rfl
  | cons t q ih =>
    show (if exM t.1 = f then t.2 * -1 else 0) + tot (liftP (negP q)) f = - ((if exM t.1 = f then t.2 else 0) + tot (liftP q) f)
    rw [ih]
    split <;> omega
theorem negP_tame {L : List Str} {e b : Nat} {q : Poly} (h : Tame L e b q) : Tame L e b (negP q) := by
  refine ⟨negP_ok h.ok, fun t ht f hf => ?_, fun t ht => ?_, ?_⟩
  · obtain ⟨u, hu, rfl⟩ := List.mem_map.mp ht
    exact h.at_ u hu f hf
  · obtain ⟨u, hu, rfl⟩ := List.mem_map.mp ht
    have := h.bits u hu
    show (u.2 * -1).natAbs < _
    rw [Int.natAbs_mul, show ((-1 : Int)).natAbs = 1 from rfl, Nat.mul_one]
    exact this
  · unfold negP
    rw [List.length_map]
    exact h.len
theorem negP_len (q : Poly) : (negP q).length = q.length := List.length_map ..
structure IsDiff (p q r : Poly) : Prop where
  ok : PolyOk r
  sem : ∀ f, semP r f = semP p f - semP q f
theorem IsDiff.sum {p q r : Poly} (h : IsDiff p q r) : IsSum p (negP q) r := ⟨h.ok, fun f => by rw [h.sem, negP_sem]; omega⟩
theorem IsSum.diff {p q r : Poly} (h : IsSum p (negP q) r) : IsDiff p q r := ⟨h.ok, fun f => by rw [h.sem, negP_sem]; omega⟩
theorem exists_diff {L : List Str} {e b : Nat} {p q : Poly} (tp : Tame L e b p) (tq : Tame L e b q) (lt : p.length + q.length ≤ 4000) : ∃ r, IsDiff p q r ∧ Tame L e (b + 1) r ∧ r.length ≤ p.length + q.length := by
  obtain ⟨r, h1, h2, h3⟩ := exists_sum tp (negP_tame tq) (by rw [negP_len]; exact lt)
  rw [negP_len] at h3
  exact ⟨r, h1.diff, h2, h3⟩
/-! ### powers -/
theorem isPow_zero {p : Poly} : IsPow p 0 (constP 1) := ⟨constP_ok 1, fun f => rfl⟩
theorem IsPow.succ {p r s : Poly} {n : Nat} (h : IsPow p n r) (g : IsProd p r s) : IsPow p (n + 1) s := ⟨g.ok, fun f => by
  rw [g.sem]
  exact prod_ext (fun g => rfl) h.sem f⟩
theorem IsPow.eq {p r s : Poly} {n : Nat} (h : IsPow p n r) (g : IsPow p n s) : r = s := h.ok.ext g.ok fun f => by rw [h.sem, g.sem]
theorem exists_power {L : List Str} {e b A : Nat} {p : Poly} (nd : L.Nodup) (tp : Tame L e b p) (lp : p.length ≤ A) (a1 : 1 ≤ A) : ∀ n, A ^ n ≤ 4000 → ∃ r, IsPow p n r ∧ Tame L (e * n) ((b + 12) * n + 1) r ∧ r.length ≤ A ^ n
  | 0, _ => ⟨constP 1, isPow_zero, constP_tame (by rw [Nat.mul_zero]; decide), by show 1 ≤ 1; decide⟩
  | n + 1, h => by
    have le : A ^ n ≤ A ^ (n + 1) := Nat.pow_le_pow_right a1 (Nat.le_succ n)
    obtain ⟨r, h1, h2, h3⟩ := exists_power nd tp lp a1 n (Nat.le_trans le h)
    have lm : p.length * r.length ≤ A ^ (n + 1) := by
      rw [Nat.pow_succ, Nat.mul_comm (A ^ n)]
      exact Nat.mul_le_mul lp h3
    obtain ⟨s, g1, g2, g3⟩ := exists_prod nd tp h2 (Nat.le_trans lm h)
    exact ⟨s, h1.succ g1, g2.mono (by rw [Nat.mul_succ]; omega) (by rw [Nat.mul_succ]; omega), Nat.le_trans g3 lm⟩
end K2P

set_option Elab.async false
set_option linter.all false
set_option maxRecDepth 100000
set_option maxHeartbeats 4000000
set_option autoImplicit false
/-! The ring's rules, by what polynomials sum up to; numbers at a place; degrees of a product. Maths. -/
namespace K2P
open PySem L2 K1D K1P
theorem nil_ok : PolyOk [] := ⟨(fun t h => (nomatch h)), .nil⟩
theorem isSum_nil {p : Poly} (hp : PolyOk p) : IsSum p [] p := ⟨hp, fun f => by show _ = _ + (0 : Int); omega⟩
theorem IsSum.comm {p q r : Poly} (h : IsSum p q r) : IsSum q p r := ⟨h.ok, fun f => by rw [h.sem]; omega⟩
theorem IsSum.assoc {p q r s t u : Poly} (h1 : IsSum p q s) (h2 : IsSum s r t) (h3 : IsSum q r u) : IsSum p u t := ⟨h2.ok, fun f => by rw [h2.sem, h1.sem, h3.sem]; omega⟩
theorem isDiff_self (p : Poly) : IsDiff p p [] := ⟨nil_ok, fun f => by show (0 : Int) = _; omega⟩
theorem isDiff_nil {p : Poly} (hp : PolyOk p) : IsDiff p [] p := ⟨hp, fun f => by show _ = _ - (0 : Int); omega⟩
theorem isDiff_zero {p : Poly} (hp : PolyOk p) : IsDiff [] p (negP p) := ⟨negP_ok hp, fun f => by rw [negP_sem]; show _ = (0 : Int) - _; omega⟩
theorem IsDiff.back {p q g : Poly} (hp : PolyOk p) (h : IsDiff p q g) : IsSum g q p := ⟨hp, fun f => by rw [h.sem]; omega⟩
theorem tot_const (k : Int) (X : List (Expo × Int)) (f : Expo) : tot (prodE [(oneE, k)] X) f = k * tot X f := by
  have e : prodE [(oneE, k)] X = X.map fun x => (x.1, k * x.2) := by
    unfold prodE prodL rowL
    rw [List.flatMap_cons, List.flatMap_nil, List.append_nil]
    refine List.map_congr_left fun x _ => ?_
    show (addE oneE x.1, k * x.2) = _
    rw [addE_one]
  rw [e]
  have := tot_scale (fun x : Expo => x) k f X
  rw [this, show X.map (fun x : Expo × Int => (x.1, x.2)) = X from List.map_id' X]
theorem lift_constP {k : Int} (h : k ≠ 0) : liftP (constP k) = [(oneE, k)] := by
  unfold constP
  rw [if_neg h]
  rfl
theorem isProd_neg {q : Poly} (hq : PolyOk q) : IsProd (constP (-1)) q (negP q) := ⟨negP_ok hq, fun f => by
  rw [lift_constP (by decide), tot_const, negP_sem]
  show - tot (liftP q) f = _
  omega⟩
theorem tot_comm (X Y : List (Expo × Int)) (f : Expo) : tot (prodE X Y) f = tot (prodE Y X) f := tot_prod_comm addE addE_comm f Y X
theorem prodE_assoc (X Y Z : List (Expo × Int)) : prodE (prodE X Y) Z = prodE X (prodE Y Z) := prodL_assoc addE addE_assoc Y Z X
theorem tot_addL (X Y Z : List (Expo × Int)) (f : Expo) : tot (prodE (X ++ Y) Z) f = tot (prodE X Z) f + tot (prodE Y Z) f := tot_prod_add addE X Y Z f
theorem tot_addR (X Y Z : List (Expo × Int)) (f : Expo) : tot (prodE X (Y ++ Z)) f = tot (prodE X Y) f + tot (prodE X Z) f := by
  rw [tot_comm, tot_addL, tot_comm Y, tot_comm Z]
theorem IsSum.app {p q r : Poly} (h : IsSum p q r) (f : Expo) : tot (liftP r) f = tot (liftP p ++ liftP q) f := by
  rw [tot_app]
  exact h.sem f
theorem IsDiff.app {p q r : Poly} (h : IsDiff p q r) (f : Expo) : tot (liftP r) f = tot (liftP p ++ liftP (negP q)) f := h.sum.app f
theorem IsProd.spreadL {p q r m x v w : Poly} (h1 : IsProd p q m) (h2 : IsProd p r x) (h3 : IsSum q r v) (h4 : IsSum m x w) : IsProd p v w := ⟨h4.ok, fun f => by
  rw [h4.sem, h1.sem, h2.sem, prod_ext (a := liftP p) (b := liftP p) (fun g => rfl) h3.app f, tot_addR]⟩
theorem powE_one (X : List (Expo × Int)) (f : Expo) : tot (powE X 1) f = tot X f := by
  show tot (prodE X [(oneE, 1)]) f = _
  rw [tot_comm, tot_const, Int.one_mul]
theorem isPow_one {p : Poly} (hp : PolyOk p) : IsPow p 1 p := ⟨hp, fun f => (powE_one _ f).symm⟩
theorem isPow_two {p r : Poly} (h : IsProd p p r) (hp : PolyOk p) : IsPow p 2 r := (isPow_one hp).succ h
theorem IsPow.two {p r : Poly} (h : IsPow p 2 r) : IsProd p p r := ⟨h.ok, fun f => by
  rw [h.sem]
  exact prod_ext (fun g => rfl) (powE_one _) f⟩
theorem powE_add (X : List (Expo × Int)) (c : Nat) : ∀ a, prodE (powE X a) (powE X c) = powE X (a + c)
  | 0 => by
    rw [Nat.zero_add]
    exact prodL_one addE oneE addE_one _
  | a + 1 => by
    rw [show a + 1 + c = (a + c) + 1 from by omega]
    show prodE (prodE X (powE X a)) (powE X c) = prodE X (powE X (a + c))
    rw [prodE_assoc, powE_add X c a]
theorem IsPow.add {p b d e : Poly} {n m : Nat} (h1 : IsPow p n b) (h2 : IsPow p m d) (h3 : IsPow p (n + m) e) : IsProd b d e := ⟨h3.ok, fun f => by
  rw [h3.sem, ← powE_add]
  exact (prod_ext h1.sem h2.sem f).symm⟩
theorem prod_square {p q m p2 q2 x : Poly} (h : IsProd p q m) (h1 : IsProd p p p2) (h2 : IsProd q q q2) (h3 : IsProd m m x) : IsProd p2 q2 x := ⟨h3.ok, fun f => by
  rw [h3.sem, prod_ext h.sem h.sem f, prod_ext h1.sem h2.sem f, prodE_assoc, prodE_assoc]
  refine prod_ext (fun g => rfl) (fun g => ?_) f
  rw [← prodE_assoc, ← prodE_assoc]
  exact prod_ext (fun g => tot_comm _ _ g) (fun g => rfl) g⟩
theorem sum_square {p q m p2 q2 y z s sq : Poly} (h : IsProd p q m) (h1 : IsProd p p p2) (h2 : IsProd q q q2) (hy : IsSum p2 q2 y) (hz : IsProd (constP 2) m z) (hs : IsSum p q s) (hq : IsSum y z sq) : IsProd s s sq := ⟨hq.ok, fun f => by
  have e1 := h.sem f
  rw [hq.sem, hy.sem, hz.sem, h1.sem, h2.sem, lift_constP (by decide), tot_const, prod_ext hs.app hs.app f, tot_addL, tot_addR, tot_addR, tot_comm (liftP q) (liftP p)]
  have e2 : tot (liftP m) f = tot (prodE (liftP p) (liftP q)) f := e1
  rw [e2]
  omega⟩
theorem tot_negR (q : Poly) (X : List (Expo × Int)) (f : Expo) : tot (prodE X (liftP (negP q))) f = - tot (prodE X (liftP q)) f := by
  have e : ∀ g, tot (liftP (negP q)) g = tot (prodE [(oneE, -1)] (liftP q)) g := fun g => by
    rw [tot_const]
    have : tot (liftP (negP q)) g = - tot (liftP q) g := negP_sem q g
    omega
  rw [prod_ext (a := X) (b := X) (fun g => rfl) e f, ← prodE_assoc, prod_ext (c := liftP q) (d := liftP q) (fun g => tot_comm X [(oneE, -1)] g) (fun g => rfl) f, prodE_assoc, tot_const]
  omega
theorem diff_square {p q p2 q2 s g d : Poly} (h1 : IsProd p p p2) (h2 : IsProd q q q2) (hs : IsSum p q s) (hg : IsDiff p q g) (hd : IsProd s g d) : IsDiff p2 q2 d := ⟨hd.ok, fun f => by
  rw [hd.sem, prod_ext hs.app hg.app f, tot_addL, tot_addR, tot_addR, tot_negR, tot_negR, h1.sem, h2.sem, tot_comm (liftP q) (liftP p)]
  omega⟩
/-! ### the number at a place -/
def evM (s : Str → Int) : Mon → Int
  | [] => 1
  | f :: m => s f.1 ^ f.2.toNat * evM s m
def evP (s : Str → Int) : Poly → Int
  | [] => 0
  | t :: p => t.2 * evM s t.1 + evP s p
def evX (s : Str → Int) : List Str → Expo → Int
  | [], _ => 1
  | x :: ns, f => s x ^ f x * evX s ns f
theorem evX_add (s : Str → Int) (f g : Expo) : ∀ ns, evX s ns (addE f g) = evX s ns f * evX s ns g
  | [] => rfl
  | x :: ns => by
    show s x ^ (f x + g x) * evX s ns (addE f g) = s x ^ f x * evX s ns f * (s x ^ g x * evX s ns g)
    rw [evX_add s f g ns, Int.pow_add]
    simp only [Int.mul_assoc, Int.mul_left_comm]
theorem evX_zero (s : Str → Int) {f : Expo} : ∀ {ns : List Str}, (∀ x ∈ ns, f x = 0) → evX s ns f = 1
  | [], _ => rfl
  | x :: ns, h => by
    show s x ^ f x * evX s ns f = 1
    rw [h x List.mem_cons_self, evX_zero s fun y hy => h y (List.mem_cons_of_mem _ hy), Int.pow_zero]
    rfl
theorem evX_one (s : Str → Int) (y : Str) (e : Nat) : ∀ {ns : List Str}, ns.Nodup → y ∈ ns → evX s ns (fun n => if y = n then e else 0) = s y ^ e
  | [], _, h => nomatch h
  | x :: ns, nd, h => by
    have nd' := List.nodup_cons.mp nd
    show s x ^ (if y = x then e else 0) * evX s ns _ = _
    by_cases q : y = x
    · subst q
      rw [if_pos rfl, evX_zero s fun z hz => if_neg fun e => nd'.1 (by rw [e]; exact hz), Int.mul_one]
    · rw [if_neg q, evX_one s y e nd'.2 ((List.mem_cons.mp h).resolve_left q)]
      rw [Int.pow_zero, Int.one_mul]
theorem evM_ex (s : Str → Int) {ns : List Str} (nd : ns.Nodup) : ∀ {m : Mon}, (∀ f ∈ m, f.1 ∈ ns) → evM s m = evX s ns (exM m)
  | [], _ => (evX_zero s fun x _ => rfl).symm
  | f :: m, h => by
    have e : exM (f :: m) = addE (fun n => if f.1 = n then f.2.toNat else 0) (exM m) := rfl
    rw [e, evX_add, evX_one s f.1 _ nd (h f List.mem_cons_self), ← evM_ex s nd fun x hx => h x (List.mem_cons_of_mem _ hx)]
    rfl
def evL (v : Expo → Int) : List (Expo × Int) → Int
  | [] => 0
  | x :: l => x.2 * v x.1 + evL v l
theorem evL_app (v : Expo → Int) : ∀ a b, evL v (a ++ b) = evL v a + evL v b
  | [], b => (Int.zero_add _).symm
  | x :: a, b => by
    show x.2 * v x.1 + evL v (a ++ b) = x.2 * v x.1 + evL v a + evL v b
    rw [evL_app v a b]
    omega
theorem evL_filter (v : Expo → Int) (g : Expo) : ∀ l : List (Expo × Int), evL v l = tot l g * v g + evL v (l.filter fun x => decide (x.1 ≠ g))
  | [] => by show (0 : Int) = 0 * v g + 0; omega
  | x :: l => by
    have ih := evL_filter v g l
    show x.2 * v x.1 + evL v l = ((if x.1 = g then x.2 else 0) + tot l g) * v g + _
    rw [List.filter_cons]
    by_cases h : x.1 = g
    · rw [if_pos h, if_neg (by simp [h]), Int.add_mul, ih, h]
      omega
    · rw [if_neg h, if_pos (by simp [h]), Int.zero_add]
      show _ = _ + (x.2 * v x.1 + evL v _)
      omega
theorem tot_filter (g f : Expo) (h : f ≠ g) : ∀ l : List (Expo × Int), tot (l.filter fun x => decide (x.1 ≠ g)) f = tot l f
  | [] => rfl
  | x :: l => by
    rw [List.filter_cons]
    by_cases q : x.1 = g
    · rw [if_neg (by simp [q]), tot_filter g f h l]
      show _ = (if x.1 = f then x.2 else 0) + tot l f
      rw [if_neg fun z => h (by rw [← z, q]), Int.zero_add]
    · rw [if_pos (by simp [q])]
      show (if x.1 = f then x.2 else 0) + tot _ f = (if x.1 = f then x.2 else 0) + tot l f
      rw [tot_filter g f h l]
theorem tot_filter_at (g : Expo) (l : List (Expo × Int)) : tot (l.filter fun x => decide (x.1 ≠ g)) g = 0 := tot_none fun x hx => by simpa using (List.mem_filter.mp hx).2
theorem evL_zero (v : Expo → Int) : ∀ (n : Nat) (l : List (Expo × Int)), l.length ≤ n → (∀ f, tot l f = 0) → evL v l = 0
  | _, [], _, _ => rfl
  | 0, x :: l, h, _ => by cases h
  | n + 1, x :: l, h, z => by
    rw [evL_filter v x.1, z, Int.zero_mul, Int.zero_add]
    refine evL_zero v n _ ?_ fun f => ?_
    · rw [List.filter_cons, if_neg (by simp)]
      have := List.length_filter_le (fun y : Expo × Int => decide (y.1 ≠ x.1)) l
      rw [List.length_cons] at h
      omega
    · by_cases q : f = x.1
      · rw [q, tot_filter_at]
      · rw [tot_filter _ _ q, z]
def negL (l : List (Expo × Int)) : List (Expo × Int) := l.map fun x => (x.1, - x.2)
theorem tot_negL (f : Expo) : ∀ l, tot (negL l) f = - tot l f
  | [] => rfl
  | x :: l => by
    show (if x.1 = f then - x.2 else 0) + tot (negL l) f = - ((if x.1 = f then x.2 else 0) + tot l f)
    rw [tot_negL f l]
    split <;> omega
theorem evL_negL (v : Expo → Int) : ∀ l, evL v (negL l) = - evL v l
  | [] => rfl
  | x :: l => by
    show - x.2 * v x.1 + evL v (negL l) = - (x.2 * v x.1 + evL v l)
    rw [evL_negL v l, Int.neg_mul]
    omega
theorem evL_ext (v : Expo → Int) {a b : List (Expo × Int)} (h : ∀ f, tot a f = tot b f) : evL v a = evL v b := by
  have := evL_zero v _ (a ++ negL b) (Nat.le_refl _) fun f => by rw [tot_app, tot_negL, h]; omega
  rw [evL_app, evL_negL] at this
  omega
theorem evL_row (v : Expo → Int) (mul : ∀ f g, v (addE f g) = v f * v g) (x : Expo × Int) : ∀ q, evL v (rowL addE x q) = x.2 * v x.1 * evL v q
  | [] => by show (0 : Int) = _ * 0; omega
  | y :: q => by
    show x.2 * y.2 * v (addE x.1 y.1) + evL v (rowL addE x q) = x.2 * v x.1 * (y.2 * v y.1 + evL v q)
    rw [evL_row v mul x q, mul, Int.mul_add]
    have : x.2 * y.2 * (v x.1 * v y.1) = x.2 * v x.1 * (y.2 * v y.1) := by simp only [Int.mul_assoc, Int.mul_left_comm]
    omega
theorem evL_prod (v : Expo → Int) (mul : ∀ f g, v (addE f g) = v f * v g) (q : List (Expo × Int)) : ∀ p, evL v (prodE p q) = evL v p * evL v q
  | [] => by show (0 : Int) = 0 * _; omega
  | x :: p => by
    show evL v (prodL addE (x :: p) q) = _
    rw [prodL_cons, evL_app, evL_row v mul]
    show _ + evL v (prodE p q) = (x.2 * v x.1 + evL v p) * evL v q
    rw [evL_prod v mul q p, Int.add_mul]
theorem evP_lift (s : Str → Int) {ns : List Str} (nd : ns.Nodup) : ∀ {p : Poly}, (∀ t ∈ p, ∀ f ∈ t.1, f.1 ∈ ns) → evP s p = evL (evX s ns) (liftP p)
  | [], _ => rfl
  | t :: p, h => by
    show t.2 * evM s t.1 + evP s p = t.2 * evX s ns (exM t.1) + evL (evX s ns) (liftP p)
    rw [evM_ex s nd (h t List.mem_cons_self), evP_lift s nd fun u hu => h u (List.mem_cons_of_mem _ hu)]
section
variable {L : List Str} {e1 e2 e3 b1 b2 b3 : Nat} {p q r : Poly} (s : Str → Int) (nd : L.Nodup) (tp : Tame L e1 b1 p) (tq : Tame L e2 b2 q) (tr : Tame L e3 b3 r)
include nd tp tq tr
theorem ev_sum (h : IsSum p q r) : evP s r = evP s p + evP s q := by
  rw [evP_lift s nd tr.within.mem, evP_lift s nd tp.within.mem, evP_lift s nd tq.within.mem, ← evL_app]
  exact evL_ext _ h.app
theorem ev_diff (h : IsDiff p q r) : evP s r = evP s p - evP s q := by
  have h2 := ev_sum s nd tr tq tp (h.back tp.ok)
  omega
theorem ev_prod (h : IsProd p q r) : evP s r = evP s p * evP s q := by
  rw [evP_lift s nd tr.within.mem, evP_lift s nd tp.within.mem, evP_lift s nd tq.within.mem, ← evL_prod _ (fun f g => evX_add s f g L)]
  exact evL_ext _ h.sem
end
/-! ### degrees of a product -/
theorem lead {X Y : List (Expo × Int)} {a b : Expo} {c d : Int} (k : Expo → Nat) (hk : ∀ f g, k (addE f g) = k f + k g) (nX : (X.map (·.1)).Nodup) (nY : (Y.map (·.1)).Nodup) (ha : (a, c) ∈ X) (hb : (b, d) ∈ Y)
    (iX : ∀ x ∈ X, k x.1 = k a → x.1 = a) (iY : ∀ y ∈ Y, k y.1 = k b → y.1 = b) (mX : ∀ x ∈ X, k x.1 ≤ k a) (mY : ∀ y ∈ Y, k y.1 ≤ k b) : tot (prodE X Y) (addE a b) = c * d := by
  have at_ : ∀ x ∈ X, ∀ y ∈ Y, addE x.1 y.1 = addE a b → x.1 = a ∧ y.1 = b := fun x hx y hy e => by
    have h := congrArg k e
    rw [hk, hk] at h
    have h1 := mX x hx
    have h2 := mY y hy
    exact ⟨iX x hx (by omega), iY y hy (by omega)⟩
  obtain ⟨X1, X2, rfl⟩ := List.append_of_mem ha
  obtain ⟨Y1, Y2, rfl⟩ := List.append_of_mem hb
  have nX' : ∀ x, x ∈ X1 ∨ x ∈ X2 → x.1 ≠ a := fun x hx e => by
    rw [List.map_append, List.map_cons] at nX
    obtain ⟨_, n2, n3⟩ := List.nodup_append.mp nX
    rcases hx with h | h
    · exact n3 _ (List.mem_map.mpr ⟨x, h, rfl⟩) _ List.mem_cons_self e
    · exact (List.nodup_cons.mp n2).1 (List.mem_map.mpr ⟨x, h, e⟩)
  have nY' : ∀ y, y ∈ Y1 ∨ y ∈ Y2 → y.1 ≠ b := fun x hx e => by
    rw [List.map_append, List.map_cons] at nY
    obtain ⟨_, n2, n3⟩ := List.nodup_append.mp nY
    rcases hx with h | h
    · exact n3 _ (List.mem_map.mpr ⟨x, h, rfl⟩) _ List.mem_cons_self e
    · exact (List.nodup_cons.mp n2).1 (List.mem_map.mpr ⟨x, h, e⟩)
  have out : ∀ Z : List (Expo × Int), (∀ z ∈ Z, z ∈ X1 ++ (a, c) :: X2) → (∀ z ∈ Z, z.1 ≠ a) → tot (prodE Z (Y1 ++ (b, d) :: Y2)) (addE a b) = 0 := fun Z h1 h2 => tot_none fun x hx e => by
    obtain ⟨y, hy, z, hz, rfl⟩ := mem_prodL.mp hx
    exact h2 y hy (at_ y (h1 y hy) z hz e).1
  have row : ∀ Z : List (Expo × Int), (∀ z ∈ Z, z ∈ Y1 ++ (b, d) :: Y2) → (∀ z ∈ Z, z.1 ≠ b) → tot (rowL addE (a, c) Z) (addE a b) = 0 := fun Z h1 h2 => tot_none fun x hx e => by
    obtain ⟨z, hz, rfl⟩ := List.mem_map.mp hx
    exact h2 z hz (at_ (a, c) ha z (h1 z hz) e).2
  rw [tot_addL, out X1 (fun z hz => List.mem_append_left _ hz) (fun z hz => nX' z (.inl hz))]
  have e : prodE ((a, c) :: X2) (Y1 ++ (b, d) :: Y2) = rowL addE (a, c) (Y1 ++ (b, d) :: Y2) ++ prodE X2 (Y1 ++ (b, d) :: Y2) := prodL_cons ..
  rw [e, tot_app, out X2 (fun z hz => List.mem_append_right _ (List.mem_cons_of_mem _ hz)) (fun z hz => nX' z (.inr hz)), rowL_app, tot_app, row Y1 (fun z hz => List.mem_append_left _ hz) (fun z hz => nY' z (.inl hz))]
  have e2 : rowL addE (a, c) ((b, d) :: Y2) = (addE a b, c * d) :: rowL addE (a, c) Y2 := rfl
  rw [e2]
  show 0 + (0 + ((if addE a b = addE a b then c * d else 0) + tot (rowL addE (a, c) Y2) (addE a b)) + 0) = _
  rw [if_pos rfl, row Y2 (fun z hz => List.mem_append_right _ (List.mem_cons_of_mem _ hz)) (fun z hz => nY' z (.inr hz))]
  omega
theorem exists_max {α : Type} (k : α → Nat) : ∀ {l : List α}, l ≠ [] → ∃ a ∈ l, ∀ x ∈ l, k x ≤ k a
  | [], h => absurd rfl h
  | [a], _ => ⟨a, List.mem_cons_self, fun x hx => by rw [List.mem_singleton.mp hx]; exact Nat.le_refl _⟩
  | a :: b :: l, _ => by
    obtain ⟨c, hc, m⟩ := exists_max k (l := b :: l) (fun h => nomatch h)
    rcases Nat.le_total (k a) (k c) with h | h
    · refine ⟨c, List.mem_cons_of_mem _ hc, fun x hx => ?_⟩
      rcases List.mem_cons.mp hx with e | q
      · rw [e]; exact h
      · exact m x q
    · refine ⟨a, List.mem_cons_self, fun x hx => ?_⟩
      rcases List.mem_cons.mp hx with e | q
      · rw [e]; exact Nat.le_refl _
      · exact Nat.le_trans (m x q) h
theorem numD_snoc (r : Nat) (d : Nat) : ∀ l : List Nat, numD r (l ++ [d]) = numD r l + r ^ l.length * d
  | [] => by show d + r * 0 = 0 + 1 * d; omega
  | x :: l => by
    show x + r * numD r (l ++ [d]) = x + r * numD r l + r ^ (l.length + 1) * d
    rw [numD_snoc r d l, Nat.mul_add, Nat.pow_succ, Nat.mul_comm (r ^ l.length) r, Nat.mul_assoc]
    omega
/-- the last name is the weightiest -/
theorem keyE_le {ns : List Str} {x : Str} {r : Nat} {f g : Expo} (hf : Dom (ns ++ [x]) r f) (hg : Dom (ns ++ [x]) r g) (h : keyE (ns ++ [x]) r f ≤ keyE (ns ++ [x]) r g) : f x ≤ g x := by
  unfold keyE at h
  rw [List.map_append, List.map_append] at h
  have e : ∀ u : Expo, numD r (ns.map u ++ [x].map u) = numD r (ns.map u) + r ^ ns.length * u x := fun u => by
    have := numD_snoc r (u x) (ns.map u)
    rw [List.length_map] at this
    exact this
  rw [e f, e g] at h
  have l2 : numD r (ns.map g) < r ^ ns.length := by
    have := numD_lt (r := r) (ds := ns.map g) fun d hd => by
      obtain ⟨y, hy, rfl⟩ := List.mem_map.mp hd
      exact hg.2 y (List.mem_append_left _ hy)
    rw [List.length_map] at this
    exact this
  refine Classical.byContradiction fun n => ?_
  have h1 : r ^ ns.length * (g x + 1) ≤ r ^ ns.length * f x := Nat.mul_le_mul_left _ (by omega)
  rw [Nat.mul_add] at h1
  omega
/-- a product that is not nought, its degree in x -/
theorem prod_degree {L : List Str} {e1 e2 e3 b1 b2 b3 : Nat} {p q r : Poly} (nd : L.Nodup) (tp : Tame L e1 b1 p) (tq : Tame L e2 b2 q) (h : IsProd p q r) (np : p ≠ []) (nq : q ≠ []) (x : Str) :
    ∃ t ∈ r, ∃ u ∈ p, ∃ v ∈ q, exM t.1 x = exM u.1 x + exM v.1 x ∧ (∀ u' ∈ p, exM u'.1 x ≤ exM u.1 x) ∧ (∀ v' ∈ q, exM v'.1 x ≤ exM v.1 x) ∧ ∀ t' ∈ r, exM t'.1 x ≤ exM t.1 x := by
  -- the names with x behind all others
  have nd2 : (L.filter (fun y => decide (y ≠ x)) ++ [x]).Nodup := by
    refine List.nodup_append.mpr ⟨nd.sublist List.filter_sublist, List.nodup_cons.mpr ⟨(fun z => nomatch z), List.nodup_nil⟩, fun a ha b hb => ?_⟩
    rw [List.mem_singleton.mp hb]
    simpa using (List.mem_filter.mp ha).2
  have sub : ∀ y ∈ L, y ∈ L.filter (fun y => decide (y ≠ x)) ++ [x] := fun y hy => by
    by_cases z : y = x
    · rw [z]; exact List.mem_append_right _ (List.mem_singleton.mpr rfl)
    · exact List.mem_append_left _ (List.mem_filter.mpr ⟨hy, by simpa using z⟩)
  generalize hM : L.filter (fun y => decide (y ≠ x)) = M at nd2 sub
  have dom : ∀ {z : Poly} {e b : Nat}, Tame L e b z → e ≤ e1 + e2 → ∀ t ∈ z, Dom (M ++ [x]) (e1 + e2 + 1) (exM t.1) := fun {z e b} tz le t ht => dom_exM (tz.ok.ok t ht).1 (fun f hf => sub _ (tz.at_ t ht f hf).1) (fun f hf => by have := (tz.at_ t ht f hf).2; omega) (by omega)
  have dp := dom tp (by omega)
  have dq := dom tq (by omega)
  obtain ⟨u, hu, mu⟩ := exists_max (fun t : Term => keyE (M ++ [x]) (e1 + e2 + 1) (exM t.1)) np
  obtain ⟨v, hv, mv⟩ := exists_max (fun t : Term => keyE (M ++ [x]) (e1 + e2 + 1) (exM t.1)) nq
  have ld := lead (X := liftP p) (Y := liftP q) (a := exM u.1) (b := exM v.1) (c := u.2) (d := v.2) (keyE (M ++ [x]) (e1 + e2 + 1)) (keyE_add _ _) tp.ok.exnd tq.ok.exnd (List.mem_map.mpr ⟨u, hu, rfl⟩) (List.mem_map.mpr ⟨v, hv, rfl⟩)
    (fun y hy e => by
      obtain ⟨t, ht, rfl⟩ := List.mem_map.mp hy
      exact keyE_inj (dp t ht) (dp u hu) e)
    (fun y hy e => by
      obtain ⟨t, ht, rfl⟩ := List.mem_map.mp hy
      exact keyE_inj (dq t ht) (dq v hv) e)
    (fun y hy => by
      obtain ⟨t, ht, rfl⟩ := List.mem_map.mp hy
      exact mu t ht)
    (fun y hy => by
      obtain ⟨t, ht, rfl⟩ := List.mem_map.mp hy
      exact mv t ht)
  have ne : tot (liftP r) (addE (exM u.1) (exM v.1)) ≠ 0 := by
    have e : tot (liftP r) (addE (exM u.1) (exM v.1)) = _ := (h.sem _).trans ld
    rw [e]
    exact Int.mul_ne_zero (tp.ok.ok u hu).2 (tq.ok.ok v hv).2
  obtain ⟨y, hy, e⟩ := List.mem_map.mp (tot_keyA ne)
  obtain ⟨t, ht, rfl⟩ := List.mem_map.mp hy
  have et : exM t.1 x = exM u.1 x + exM v.1 x := by
    have := congrFun e x
    exact this
  have pu : ∀ u' ∈ p, exM u'.1 x ≤ exM u.1 x := fun u' hu' => keyE_le (dp u' hu') (dp u hu) (mu u' hu')
  have pv : ∀ v' ∈ q, exM v'.1 x ≤ exM v.1 x := fun v' hv' => keyE_le (dq v' hv') (dq v hv) (mv v' hv')
  refine ⟨t, ht, u, hu, v, hv, et, pu, pv, fun t' ht' => ?_⟩
  have ne' : tot (prodE (liftP p) (liftP q)) (exM t'.1) ≠ 0 := by
    rw [← h.sem, h.ok.sem ht']
    exact (h.ok.ok t' ht').2
  obtain ⟨y, hy, e⟩ := List.mem_map.mp (tot_keyA ne')
  obtain ⟨a, ha, b, hb, rfl⟩ := mem_prodL.mp hy
  obtain ⟨u', hu', rfl⟩ := List.mem_map.mp ha
  obtain ⟨v', hv', rfl⟩ := List.mem_map.mp hb
  have e2 : exM u'.1 x + exM v'.1 x = exM t'.1 x := congrFun e x
  have h1 := pu u' hu'
  have h2 := pv v' hv'
  omega
end K2P

set_option Elab.async false
set_option linter.all false
set_option maxRecDepth 100000
set_option maxHeartbeats 8000000
set_option autoImplicit false
set_option pp.maxSteps 600
/-! _by_monomials, added, less of lists or tuples; variables, degree_in, variable. -/
namespace K2P
open PySem L2 K1D K1P
open LamX (Tabs ExtN TabB)
def spByB (K : PySem.W.Frag) (w : World) : Sp := fun vs H Q _ => ∃ (b : Bool) (a : Addr) (p : Poly), vs = [.ref a] ∧ PolyB b K H p a ∧ (p.map (·.1)).Nodup ∧ p.length < sizeLine ∧ (∀ t ∈ p, t.1.length < sizeLine) ∧
  ∀ (d : Addr) (G : Hp), Same H G → H d = none → DictM K w G d p → Q (.ref d) G
/-- inputs of a sum or difference -/
structure SumG (K : PySem.W.Frag) (H : Hp) (va vb : Addr) (p q : Poly) (L : List Str) (e1 e2 b1 b2 : Nat) (bp bq : Bool) : Prop where
  kp : PolyB bp K H p va
  kq : PolyB bq K H q vb
  nm : NamesOk L
  tp : Tame L e1 b1 p
  tq : Tame L e2 b2 q
def spAddB (K : PySem.W.Frag) : Sp := fun vs H Q _ => ∃ (va vb : Addr) (p q r : Poly) (L : List Str) (e1 e2 b1 b2 : Nat) (bp bq : Bool), vs = [.ref va, .ref vb] ∧ SumG K H va vb p q L e1 e2 b1 b2 bp bq ∧ IsSum p q r ∧ FitsC (r.map (·.2)) ∧
  ∀ (a : Addr) (G : Hp), Same H G → KeyV K G (K2P.polyK r) (.ref a) → Q (.ref a) G
def spLessB (K : PySem.W.Frag) : Sp := fun vs H Q _ => ∃ (va vb : Addr) (p q r : Poly) (L : List Str) (e1 e2 b1 b2 : Nat) (bp bq : Bool), vs = [.ref va, .ref vb] ∧ SumG K H va vb p q L e1 e2 b1 b2 bp bq ∧ IsDiff p q r ∧ FitsC (r.map (·.2)) ∧
  ∀ (a : Addr) (G : Hp), Same H G → KeyV K G (K2P.polyK r) (.ref a) → Q (.ref a) G
structure AddTB (P : Program) (w : World) (K : PySem.W.Frag) (mg : Str → Option Value) (base : Heap) (fB fP fO : Addr) (dB dP dO : FuncData) : Prop where
  cB : CallT P w K mg base CX0 1 "_by_monomials" ["p"] (spByB K w) fB dB
  cP : CallT P w K mg base CX0 1 "plus" ["p", "q"] (spPlus K w) fP dP
  cO : CallT P w K mg base CX0 2 "_of_monomials" ["table"] (spOf K w) fO dO
theorem Tame.mlen {L : List Str} {e b : Nat} {p : Poly} (h : Tame L e b p) (nm : NamesOk L) : ∀ t ∈ p, t.1.length < sizeLine := fun t ht => by
  have := mon_len (h.ok.ok t ht).1 fun f hf => (h.at_ t ht f hf).1
  have := nm.few
  rw [sizeLine_eq]
  omega
section
variable {P : Program} {w : World} {K : PySem.W.Frag} {mg : Str → Option Value} {base : Heap} {fB fP fO : Addr} {dB dP dO : FuncData}
theorem ok_byB {f : Addr} {fd : FuncData} (F : Fun K "_by_monomials" "_by_monomials" K1P.sBy f fd) (tup : mg "tuple" = none) : FnOk P w K mg base CX0 1 f fd ["p"] (spByB K w) := by
  refine F.ok K1P.scBy (fun vs H Q E h => ?_) (fun cdv A outer s H vs Q E hr h => ?_)
  · obtain ⟨b, a, p, rfl, _⟩ := h
    rfl
  · obtain ⟨b, a, p, rfl, ⟨xs, hxs, ax⟩, nd, hl, hlm, go⟩ := h
    refine ⟨_, (pss_one (ps_ret (pe_ndc (own := [("monomial", 1), ("many", 2)]) (g := (gSeqB b K 2 (gCons (gName 1) (gCons (gName 2) gNil)))) (tk := tThen (tLc (iSeqB b K (tVar 1)) (gSeqB b K 2 (gCons (gName 3) (gCons (gName 4) gNil))) tYes (tTup (tCons (tVar 3) (tCons (tVar 4) tNil))) [3, 4]) (kTup K)) (hu8 hr) rfl K1P.scBy.nd (pi_seqB b (pv 0)) (blkOk_by (own := [("monomial", 1), ("many", 2)]) (N := ["p", "monomial", "many", "name", "exponent"]) (sc := defScope K1P.sBy) (by decide +kernel)) (fun _ _ _ _ _ => (pg_seqB b rfl (pgs_cons (pg_name (i := 1) K1P.scBy.nd rfl (Or.inl rfl)) (pgs_cons (pg_name (i := 2) K1P.scBy.nd rfl (Or.inl rfl)) pgs_nil)))) (fun _ _ _ _ _ => pts_nil) (fun _ _ _ _ _ => pe_tupleOf (by rfl) tup (pe_lc (own := [("name", 3), ("exponent", 4)]) (g := (gSeqB b K 2 (gCons (gName 3) (gCons (gName 4) gNil)))) rfl K1P.scBy.nd (pi_seqB b (pv 1)) (blkOk_by (own := [("name", 3), ("exponent", 4)]) (N := ["p", "monomial", "many", "name", "exponent"]) (sc := K1P.dcScope (defBody K1P.sBy)) (by decide +kernel)) (fun _ _ _ _ _ => (pg_seqB b rfl (pgs_cons (pg_name (i := 3) K1P.scBy.nd rfl (Or.inl rfl)) (pgs_cons (pg_name (i := 4) K1P.scBy.nd rfl (Or.inl rfl)) pgs_nil)))) (fun _ _ _ _ _ => pts_nil) (fun _ _ _ _ _ => (pe_tup (pa_cons (pv 3) (pa_cons (pv 4) pa_nil)))))) (fun _ _ _ _ _ => pv 2)))), ?_⟩
    have lx : xs.length = p.length := ax.1
    refine seqB_go rfl hxs (fun D nD => ?_)
    have w0 := walk_seqB (K := K) (a := a) (xs := xs) b
    have ndI : (keysI (niT p)).Nodup := nodup_ni.mpr nd
    refine blk_n (o := fun D => dN w D []) (n := xs.length) (fun (i : Nat) (F : Hp) => Same H F ∧ ∃ os : List NE, F D = some (dN w D os) ∧ KeysN K F os ∧ IntsN os (((niT p).take i).map fun x : NI => (x.1, x.2)))
      ⟨fun a o q => (upd_ne (ne_of_none q nD)).trans q, [], upd_same, (fun x hx => by cases hx), rfl⟩ (fun i F hi ⟨s, _⟩ => w0.goes i F hi (Keeps.same s _ _ _ hxs)) (fun F ⟨s, _⟩ => w0.stops F (Keeps.same s _ _ _ hxs)) (fun i F x F' hi ⟨sm, os, h1, h2, h3⟩ hy => ?_) (fun F ⟨sm, os, h1, h2, h3⟩ => ?_)
    · obtain ⟨e, hv⟩ := w0.yields i F x F' hi (Keeps.same sm _ _ _ hxs) hy
      subst e
      obtain ⟨t, ht, q, u, rfl, hq, hm⟩ := ax.get hv
      obtain ⟨mo, ms, rfl, hmo, am⟩ := id hm
      have tm := List.mem_of_getElem? ht
      have yt : (niT p)[i]? = some (K2P.monK t.1, t.2) := by
        unfold niT
        rw [List.getElem?_map, ht]
        rfl
      refine gseqB_go (Keeps.same sm _ _ _ hq) rfl ⟨_, _, rfl, _, _, rfl, rfl, rfl, ?_⟩
      refine seqB_go rfl (Keeps.same sm _ _ _ hmo) (fun L nL => ?_)
      refine lc_it (walk_seqB b) (fun (j : Nat) (G : Hp) => Same F' G ∧ ∃ zs : List V, G L = some (.lst zs) ∧ KeyVs K G ((t.1.take j).map K2P.facK) zs) ⟨fun a o q => (upd_ne (ne_of_none q nL)).trans q, [], upd_same, .nil⟩
        (fun j G _ ⟨sg, _⟩ => Keeps.same sg _ _ _ (Keeps.same sm _ _ _ hmo)) (fun j y G0 G hj ⟨sg, zs, g1, g2⟩ ⟨e, hv2⟩ => ?_) (fun G ⟨sg, zs, g1, g2⟩ => ?_)
      · subst e
        obtain ⟨z, hz, c, rfl, hc⟩ := am.get hv2
        refine gseqB_go (Keeps.same sg _ _ _ (Keeps.same sm _ _ _ hc)) rfl ⟨_, _, rfl, _, _, rfl, rfl, rfl, ?_⟩
        refine ⟨_, rfl, _, rfl, by show 2 ≤ sizeLine; decide, fun q nq => ?_⟩
        have gL : upd G q (.tup [.str z.1, .int z.2]) L = some (.lst zs) := (upd_ne (ne_of_none g1 nq)).trans g1
        have s2 : Same G (upd G q (.tup [.str z.1, .int z.2])) := fun a o e => (upd_ne (ne_of_none e nq)).trans e
        have kq : KeyV K (upd G q (.tup [.str z.1, .int z.2])) (K2P.facK z) (.ref q) := .tup upd_same (.cons (.str z.1) (.cons (.int z.2) .nil))
        have zl : zs.length < sizeLine := by
          have q1 := keyVs_len g2
          rw [List.length_map, List.length_take] at q1
          have := hlm t tm
          omega
        have g2' := KeyVs.up (same_tups s2) _ _ g2
        generalize upd G q (.tup [.str z.1, .int z.2]) = G2 at gL s2 kq g2' ⊢
        have tl : Tups K G2 (upd G2 L (.lst (zs ++ [.ref q]))) := Tups.put fun xs e => by
          rcases e with e | ⟨o, e⟩
          · rw [gL] at e; cases e
          · rw [gL] at e; cases e
        refine ⟨zs, gL, zl, fun a o e => ?_, zs ++ [.ref q], upd_same, ?_⟩
        · have ne : a ≠ L := fun z => by subst z; rw [nL] at e; cases e
          exact (upd_ne ne).trans (s2 a o (sg a o e))
        · rw [take_snoc hz, List.map_append]
          exact KeyVs.up tl _ _ (keyVs_snoc g2' kq)
      · rw [am.1, List.take_length] at g2
        refine .inl ⟨L, zs, rfl, SqL.of g1, fun q nq => ?_⟩
        have kq : KeyV K (upd G q (.tup zs)) (K2P.monK t.1) (.ref q) := .tup upd_same (KeyVs.up (Tups.put (not_tup_none nq)) _ _ g2)
        have s2 : Same F' (upd G q (.tup zs)) := fun a o e => (upd_ne (ne_of_none (sg a o e) nq)).trans (sg a o e)
        generalize upd G q (.tup zs) = G2 at kq s2 ⊢
        have hlen : os.length < sizeLine := by
          have q1 := ints_len h3
          rw [List.length_map, List.length_take, len_ni] at q1
          omega
        have dk := Nat.le_trans (depth_mon t.1) (by decide : 2 ≤ 8)
        refine ⟨_, rfl, os, K2P.monK t.1, q, rfl, s2 _ _ h1, h2.up (same_tups s2), hlen, kq, dk, fun a o e => ?_, _, upd_same, ?_, ?_⟩
        · have ne : a ≠ D := fun z => by subst z; rw [nD] at e; cases e
          exact (upd_ne ne).trans (s2 a o (sm a o e))
        · exact ((h2.up (same_tups s2)).put kq dk).up (Tups.put (not_tup_dN (s2 _ _ h1)))
        · have := ints_put h3 (K2P.monK t.1) q t.2
          rw [show putI (((niT p).take i).map fun x => (x.1, x.2)) (K2P.monK t.1) t.2 = ((niT p).take (i + 1)).map fun x => (x.1, x.2) from put_take ndI (fun x => x.2) yt] at this
          exact this
    · have em : ((niT p).take xs.length).map (fun x : NI => (x.1, x.2)) = niT p := by rw [lx, ← len_ni p, List.take_length]; exact List.map_id _
      rw [em] at h3
      exact go D F sm nD ⟨os, h1, h2, h3, ndI⟩
theorem plus_same {H1 H2 H3 H4 H5 : Hp} (a : Same H1 H2) (b : Same H2 H3) (c : Same H3 H4) (d : Same H4 H5) : Same H1 H5 := fun x o e => d x o (c x o (b x o (a x o e)))
theorem fits_of {p q r : Poly} (pm : (r.map (·.2)).Perm ((plusI (niT p) (niT q)).map (·.2))) (fi : FitsC (r.map (·.2))) : Fits (plusI (niT p) (niT q)) := by
  refine ⟨?_, fun x hx => fi.2 x.2 (pm.symm.mem_iff.mp (List.mem_map.mpr ⟨x, hx, rfl⟩))⟩
  have := pm.length_eq
  rw [List.length_map, List.length_map] at this
  rw [← this]
  have := fi.1
  rw [List.length_map] at this
  exact this
theorem ok_addB {f : Addr} {fd : FuncData} (F : Fun K "added" "added" K1P.sAdded f fd) (Z : AddTB P w K mg base fB fP fO dB dP dO) : FnOk P w K mg base CX0 3 f fd ["p", "q"] (spAddB K) := by
  refine F.ok K1P.scAdded (fun vs H Q E h => ?_) (fun cdv A outer s H vs Q E hr h => ?_)
  · obtain ⟨va, vb, p, q, r, L, e1, e2, b1, b2, bp, bq, rfl, _⟩ := h
    rfl
  · obtain ⟨va, vb, p, q, r, L, e1, e2, b1, b2, bp, bq, rfl, ⟨kp, kq, nm, tp, tq⟩, is, fi, go⟩ := h
    refine ⟨_, (pss_one (ps_ret (pe_call Z.cO.ok (hr.mono (by decide)) rfl Z.cO.g Z.cO.k Z.cO.b .nil pass0 (pa_cons (pe_call Z.cP.ok (hr.mono (by decide)) rfl Z.cP.g Z.cP.k Z.cP.b .nil pass0 (pa_cons (pe_call Z.cB.ok (hr.mono (by decide)) rfl Z.cB.g Z.cB.k Z.cB.b .nil pass0 (pa_cons (pv 0) pa_nil)) (pa_cons (pe_call Z.cB.ok (hr.mono (by decide)) rfl Z.cB.g Z.cB.k Z.cB.b .nil pass0 (pa_cons (pv 1) pa_nil)) pa_nil))) pa_nil)))), ?_⟩
    obtain ⟨s, es, iss, pm⟩ := plus_ni tp.ok tq.ok
    obtain rfl : r = s := is.eq iss
    have l1 := tp.len
    have l2 := tq.len
    refine ⟨_, rfl, bp, va, p, rfl, kp, tp.ok.nd, by rw [sizeLine_eq]; omega, tp.mlen nm, fun d1 H1 s1 n1 e1 => ?_⟩
    refine ⟨_, rfl, bq, vb, q, rfl, kq.keep (Keeps.same s1), tq.ok.nd, by rw [sizeLine_eq]; omega, tq.mlen nm, fun d2 H2 s2 n2 e2 => ?_⟩
    refine ⟨d1, d2, niT p, niT q, rfl, DictI.up e1 s2, e2, by rw [len_ni, len_ni, sizeLine_eq]; omega, fun x hx => ?_, fun d3 H3 s3 n3 e3 => ?_⟩
    · obtain ⟨t, ht, rfl⟩ := List.mem_map.mp hx
      exact (tq.ok.ok t ht).2
    refine ⟨d3, plusI (niT p) (niT q), rfl, e3, monsI_plus (mons_ni p) (mons_ni q), fits_of pm fi, fun a H4 s4 h4 => go a H4 (plus_same s1 s2 s3 s4) ?_⟩
    rw [es] at h4
    exact polyV_iff h4
/-! ### variables, degrees -/
theorem up_of_rising : ∀ (p : Str) (l : List Str), PyProof.Rows.risingS p l = true → (p :: l).Nodup → (p :: l).Pairwise (fun a b => a.cps.toList < b.cps.toList)
  | p, [], _, _ => List.pairwise_singleton _ _
  | p, x :: r, h, nd => by
    have h' : (!PySem.Spec.ltCps x.cps.toList p.cps.toList && PyProof.Rows.risingS x r) = true := h
    obtain ⟨h1, h2⟩ := Bool.and_eq_true_iff.mp h'
    have nd' := List.nodup_cons.mp nd
    have ih := up_of_rising x r h2 nd'.2
    have lt : p.cps.toList < x.cps.toList := by
      rw [PyProof.Rows.ltCps_eq] at h1
      have n1 : ¬ x.cps.toList < p.cps.toList := by simpa using h1
      refine Std.lt_of_le_of_ne n1 fun e => nd'.1 ?_
      have : p = x := by
        cases p; cases x
        congr 1
        exact Array.toList_inj.mp e
      rw [this]
      exact List.mem_cons_self
    refine List.pairwise_cons.mpr ⟨fun y hy => ?_, ih⟩
    rcases List.mem_cons.mp hy with e | hy
    · rw [e]; exact lt
    · exact List.lt_trans lt ((List.pairwise_cons.mp ih).1 y hy)
/-- texts, rising -/
def UpS (ns : List Str) : Prop := ns.Pairwise (fun a b => a.cps.toList < b.cps.toList)
theorem up_sorted : ∀ {l : List Str}, PyProof.Rows.sortedS l = true → l.Nodup → UpS l
  | [], _, _ => .nil
  | x :: r, h, nd => up_of_rising x r h nd
theorem UpS.ext {l m : List Str} (h : UpS l) (g : UpS m) (e : ∀ x, x ∈ l ↔ x ∈ m) : l = m := sorted_ext (R := fun a b : Str => a.cps.toList < b.cps.toList) (fun a b h g => List.lt_irrefl _ (List.lt_trans h g)) h g e
theorem UpS.nd {l : List Str} (h : UpS l) : l.Nodup := h.imp fun {a b} q e => by rw [e] at q; exact List.lt_irrefl _ q
def spVars (K : PySem.W.Frag) : Sp := fun vs H Q _ => ∃ (c b : Bool) (a : Addr) (p : Poly) (L : List Str), vs = [.ref a] ∧ PolyC c b K H p a ∧ (∀ f ∈ facs p, 1 ≤ f.2 ∧ f.1 ∈ L) ∧ (facs p).length < sizeLine ∧ L.length < 64 ∧
  ∀ (t : Addr) (ys : List Str) (G : Hp), Same H G → G t = some (.tup (ys.map V.str)) → UpS ys → (∀ x, x ∈ ys ↔ ∃ f ∈ facs p, f.1 = x) → Q (.ref t) G
/-- m is the degree in x -/
def DegIn (p : Poly) (x : Str) (m : Int) : Prop := (∀ f ∈ facs p, f.1 = x → f.2 ≤ m) ∧ (m = 0 ∨ ∃ f ∈ facs p, f.1 = x ∧ f.2 = m)
def spDegIn (K : PySem.W.Frag) : Sp := fun vs H Q _ => ∃ (c b : Bool) (a : Addr) (p : Poly) (x : Str), vs = [.ref a, .str x] ∧ PolyC c b K H p a ∧ (∀ f ∈ facs p, 1 ≤ f.2) ∧ (facs p).length < sizeLine ∧
  ∀ (m : Int) (G : Hp), Same H G → DegIn p x m → Q (.int m) G
theorem keys_mpS (D : KS) : (mpT eS D).map (·.1) = (D.map (·.1)).map Sum.inr := by
  unfold mpT eS
  rw [List.map_map, List.map_map]
  rfl
abbrev sVars : Stmt := top 24
theorem scVars : FnScope ["p"] ["p"] (defScope sVars) := ⟨rfl, rfl, rfl, by decide +kernel, rfl, by decide +kernel, by decide +kernel⟩
theorem ok_vars {f fG : Addr} {fd dG : FuncData} (F : Fun K "variables" "variables" sVars f fd) (D : CallT P w K mg base CX0 1 "degrees" ["p"] (spDeg K) fG dG) (tup : mg "tuple" = none) (sor : mg "sorted" = none) : FnOk P w K mg base CX0 2 f fd ["p"] (spVars K) := by
  refine F.ok scVars (fun vs H Q E h => ?_) (fun cdv A outer s H vs Q E hr h => ?_)
  · obtain ⟨c, b, a, p, L, rfl, _⟩ := h
    rfl
  · obtain ⟨c, b, a, p, L, rfl, hp, f1, fl, l64, go⟩ := h
    refine ⟨_, (pss_one (ps_ret (pe_tupleOf (by rfl) tup (pe_callB (call_sortedD rfl) (by rfl) sor (by decide +kernel) (pa_cons (pe_call D.ok (hr.mono (by decide)) rfl D.g D.k D.b .nil pass0 (pa_cons (pv 0) pa_nil)) pa_nil))))), ?_⟩
    refine ⟨_, rfl, c, b, a, p, rfl, hp, fun f hf => (f1 f hf).1, fl, fun d D G s1 n1 hD dg => ?_⟩
    have lD : (D.map (·.1)).length < 64 := by
      refine Nat.lt_of_le_of_lt (nodup_sub dg.nd fun x hx => ?_) l64
      obtain ⟨f, hf, rfl⟩ := (dg.keys x).mp hx
      exact (f1 f hf).2
    refine ⟨d, _, D.map (·.1), rfl, .inl hD, keys_mpS D, lD, fun ys l pm so nl => ?_⟩
    refine .inl ⟨l, _, rfl, SqL.of upd_same, fun t nt => ?_⟩
    exact go t ys _ (s1.trans ((same_new nl).trans (same_new nt))) upd_same (up_sorted so (pm.nodup_iff.mpr dg.nd)) fun x => (pm.mem_iff).trans (dg.keys x)
end
end K2P

set_option Elab.async false
set_option linter.all false
set_option maxRecDepth 100000
set_option maxHeartbeats 4000000
set_option autoImplicit false
set_option pp.maxSteps 600
/-! The law's tape: a dict of its cells, its state; load, draw. -/
namespace K3
open PySem L2
abbrev sTape : Stmt := K2P.top 32
abbrev sLoad : Stmt := K2P.top 33
abbrev sDraw : Stmt := K2P.top 34
abbrev nv : Str := "number"
/-- a written dict of unlike keys -/
theorem merge_nd : ∀ (more acc : List (Key × V)), ((acc ++ more).map (·.1)).Nodup → mergeK acc more = acc ++ more
  | [], acc, _ => by simp [mergeK]
  | x :: more, acc, h => by
    have n : valV acc x.1 = none := by
      cases e : valV acc x.1 with
      | none => rfl
      | some v =>
        rw [List.map_append, List.map_cons] at h
        exact absurd rfl ((List.nodup_append.mp h).2.2 _ (valV_in e) _ List.mem_cons_self)
    show mergeK (putK acc x.1 x.2) more = _
    rw [putK_new _ n, merge_nd more (acc ++ [(x.1, x.2)]) (by simpa using h)]
    simp
/-- the tape's pairs -/
def tp (l : Addr) (a v d m s : Int) : List (Key × V) := [(Sum.inr ("cells" : Str), .ref l), (Sum.inr ("at" : Str), .int a), (Sum.inr ("value" : Str), .int v), (Sum.inr ("digits" : Str), .int d), (Sum.inr ("mixed" : Str), .int m), (Sum.inr ("salt" : Str), .int s)]
section
variable {l : Addr} {a v d m s : Int}
theorem ne_CA : ¬ (Sum.inr ("cells" : Str) : Key) = Sum.inr ("at" : Str) := by decide +kernel
theorem ne_CV : ¬ (Sum.inr ("cells" : Str) : Key) = Sum.inr ("value" : Str) := by decide +kernel
theorem ne_CD : ¬ (Sum.inr ("cells" : Str) : Key) = Sum.inr ("digits" : Str) := by decide +kernel
theorem ne_CM : ¬ (Sum.inr ("cells" : Str) : Key) = Sum.inr ("mixed" : Str) := by decide +kernel
theorem ne_CS : ¬ (Sum.inr ("cells" : Str) : Key) = Sum.inr ("salt" : Str) := by decide +kernel
theorem ne_AC : ¬ (Sum.inr ("at" : Str) : Key) = Sum.inr ("cells" : Str) := by decide +kernel
theorem ne_AV : ¬ (Sum.inr ("at" : Str) : Key) = Sum.inr ("value" : Str) := by decide +kernel
theorem ne_AD : ¬ (Sum.inr ("at" : Str) : Key) = Sum.inr ("digits" : Str) := by decide +kernel
theorem ne_AM : ¬ (Sum.inr ("at" : Str) : Key) = Sum.inr ("mixed" : Str) := by decide +kernel
theorem ne_AS : ¬ (Sum.inr ("at" : Str) : Key) = Sum.inr ("salt" : Str) := by decide +kernel
theorem ne_VC : ¬ (Sum.inr ("value" : Str) : Key) = Sum.inr ("cells" : Str) := by decide +kernel
theorem ne_VA : ¬ (Sum.inr ("value" : Str) : Key) = Sum.inr ("at" : Str) := by decide +kernel
theorem ne_VD : ¬ (Sum.inr ("value" : Str) : Key) = Sum.inr ("digits" : Str) := by decide +kernel
theorem ne_VM : ¬ (Sum.inr ("value" : Str) : Key) = Sum.inr ("mixed" : Str) := by decide +kernel
theorem ne_VS : ¬ (Sum.inr ("value" : Str) : Key) = Sum.inr ("salt" : Str) := by decide +kernel
theorem ne_DC : ¬ (Sum.inr ("digits" : Str) : Key) = Sum.inr ("cells" : Str) := by decide +kernel
theorem ne_DA : ¬ (Sum.inr ("digits" : Str) : Key) = Sum.inr ("at" : Str) := by decide +kernel
theorem ne_DV : ¬ (Sum.inr ("digits" : Str) : Key) = Sum.inr ("value" : Str) := by decide +kernel
theorem ne_DM : ¬ (Sum.inr ("digits" : Str) : Key) = Sum.inr ("mixed" : Str) := by decide +kernel
theorem ne_DS : ¬ (Sum.inr ("digits" : Str) : Key) = Sum.inr ("salt" : Str) := by decide +kernel
theorem ne_MC : ¬ (Sum.inr ("mixed" : Str) : Key) = Sum.inr ("cells" : Str) := by decide +kernel
theorem ne_MA : ¬ (Sum.inr ("mixed" : Str) : Key) = Sum.inr ("at" : Str) := by decide +kernel
theorem ne_MV : ¬ (Sum.inr ("mixed" : Str) : Key) = Sum.inr ("value" : Str) := by decide +kernel
theorem ne_MD : ¬ (Sum.inr ("mixed" : Str) : Key) = Sum.inr ("digits" : Str) := by decide +kernel
theorem ne_MS : ¬ (Sum.inr ("mixed" : Str) : Key) = Sum.inr ("salt" : Str) := by decide +kernel
theorem ne_SC : ¬ (Sum.inr ("salt" : Str) : Key) = Sum.inr ("cells" : Str) := by decide +kernel
theorem ne_SA : ¬ (Sum.inr ("salt" : Str) : Key) = Sum.inr ("at" : Str) := by decide +kernel
theorem ne_SV : ¬ (Sum.inr ("salt" : Str) : Key) = Sum.inr ("value" : Str) := by decide +kernel
theorem ne_SD : ¬ (Sum.inr ("salt" : Str) : Key) = Sum.inr ("digits" : Str) := by decide +kernel
theorem ne_SM : ¬ (Sum.inr ("salt" : Str) : Key) = Sum.inr ("mixed" : Str) := by decide +kernel
theorem v_C : valV (tp l a v d m s) (Sum.inr ("cells" : Str)) = some (.ref l) := valV_pos rfl
theorem gC {H : Hp} {p : Addr} (h : H p = some (.dK (tp l a v d m s))) : DGet H p (.str "cells") (some (.ref l)) := by
  have := DGet.k (k := (Sum.inr ("cells" : Str) : Key)) h
  rw [v_C] at this
  exact this
theorem v_A : valV (tp l a v d m s) (Sum.inr ("at" : Str)) = some (.int a) := (valV_neg ne_CA).trans (valV_pos rfl)
theorem gA {H : Hp} {p : Addr} (h : H p = some (.dK (tp l a v d m s))) : DGet H p (.str "at") (some (.int a)) := by
  have := DGet.k (k := (Sum.inr ("at" : Str) : Key)) h
  rw [v_A] at this
  exact this
theorem q_A (z : Int) : putK (tp l a v d m s) (Sum.inr ("at" : Str)) (.int z) = tp l z v d m s := by
  unfold putK
  rw [valV_any, v_A]
  simp only [Option.isSome_some, if_true, tp, List.map_cons, List.map_nil, ne_CA, ne_VA, ne_DA, ne_MA, ne_SA, if_false]
theorem pA {H : Hp} {p : Addr} (h : H p = some (.dK (tp l a v d m s))) (z : Int) : DPut H p (.str "at") (.int z) (upd H p (.dK (tp l z v d m s))) := by
  have := DPut.k (k := (Sum.inr ("at" : Str) : Key)) (v := V.int z) h (by show 6 < sizeLine; decide)
  rw [q_A] at this
  exact this
theorem v_V : valV (tp l a v d m s) (Sum.inr ("value" : Str)) = some (.int v) := (valV_neg ne_CV).trans ((valV_neg ne_AV).trans (valV_pos rfl))
theorem gV {H : Hp} {p : Addr} (h : H p = some (.dK (tp l a v d m s))) : DGet H p (.str "value") (some (.int v)) := by
  have := DGet.k (k := (Sum.inr ("value" : Str) : Key)) h
  rw [v_V] at this
  exact this
theorem q_V (z : Int) : putK (tp l a v d m s) (Sum.inr ("value" : Str)) (.int z) = tp l a z d m s := by
  unfold putK
  rw [valV_any, v_V]
  simp only [Option.isSome_some, if_true, tp, List.map_cons, List.map_nil, ne_CV, ne_AV, ne_DV, ne_MV, ne_SV, if_false]
theorem pV {H : Hp} {p : Addr} (h : H p = some (.dK (tp l a v d m s))) (z : Int) : DPut H p (.str "value") (.int z) (upd H p (.dK (tp l a z d m s))) := by
  have := DPut.k (k := (Sum.inr ("value" : Str) : Key)) (v := V.int z) h (by show 6 < sizeLine; decide)
  rw [q_V] at this
  exact this
theorem v_D : valV (tp l a v d m s) (Sum.inr ("digits" : Str)) = some (.int d) := (valV_neg ne_CD).trans ((valV_neg ne_AD).trans ((valV_neg ne_VD).trans (valV_pos rfl)))
theorem gD {H : Hp} {p : Addr} (h : H p = some (.dK (tp l a v d m s))) : DGet H p (.str "digits") (some (.int d)) := by
  have := DGet.k (k := (Sum.inr ("digits" : Str) : Key)) h
  rw [v_D] at this
  exact this
theorem q_D (z : Int) : putK (tp l a v d m s) (Sum.inr ("digits" : Str)) (.int z) = tp l a v z m s := by
  unfold putK
  rw [valV_any, v_D]
  simp only [Option.isSome_some, if_true, tp, List.map_cons, List.map_nil, ne_CD, ne_AD, ne_VD, ne_MD, ne_SD, if_false]
theorem pD {H : Hp} {p : Addr} (h : H p = some (.dK (tp l a v d m s))) (z : Int) : DPut H p (.str "digits") (.int z) (upd H p (.dK (tp l a v z m s))) := by
  have := DPut.k (k := (Sum.inr ("digits" : Str) : Key)) (v := V.int z) h (by show 6 < sizeLine; decide)
  rw [q_D] at this
  exact this
theorem v_M : valV (tp l a v d m s) (Sum.inr ("mixed" : Str)) = some (.int m) := (valV_neg ne_CM).trans ((valV_neg ne_AM).trans ((valV_neg ne_VM).trans ((valV_neg ne_DM).trans (valV_pos rfl))))
theorem gM {H : Hp} {p : Addr} (h : H p = some (.dK (tp l a v d m s))) : DGet H p (.str "mixed") (some (.int m)) := by
  have := DGet.k (k := (Sum.inr ("mixed" : Str) : Key)) h
  rw [v_M] at this
  exact this
theorem q_M (z : Int) : putK (tp l a v d m s) (Sum.inr ("mixed" : Str)) (.int z) = tp l a v d z s := by
  unfold putK
  rw [valV_any, v_M]
  simp only [Option.isSome_some, if_true, tp, List.map_cons, List.map_nil, ne_CM, ne_AM, ne_VM, ne_DM, ne_SM, if_false]
theorem pM {H : Hp} {p : Addr} (h : H p = some (.dK (tp l a v d m s))) (z : Int) : DPut H p (.str "mixed") (.int z) (upd H p (.dK (tp l a v d z s))) := by
  have := DPut.k (k := (Sum.inr ("mixed" : Str) : Key)) (v := V.int z) h (by show 6 < sizeLine; decide)
  rw [q_M] at this
  exact this
theorem v_S : valV (tp l a v d m s) (Sum.inr ("salt" : Str)) = some (.int s) := (valV_neg ne_CS).trans ((valV_neg ne_AS).trans ((valV_neg ne_VS).trans ((valV_neg ne_DS).trans ((valV_neg ne_MS).trans (valV_pos rfl)))))
theorem gS {H : Hp} {p : Addr} (h : H p = some (.dK (tp l a v d m s))) : DGet H p (.str "salt") (some (.int s)) := by
  have := DGet.k (k := (Sum.inr ("salt" : Str) : Key)) h
  rw [v_S] at this
  exact this
theorem q_S (z : Int) : putK (tp l a v d m s) (Sum.inr ("salt" : Str)) (.int z) = tp l a v d m z := by
  unfold putK
  rw [valV_any, v_S]
  simp only [Option.isSome_some, if_true, tp, List.map_cons, List.map_nil, ne_CS, ne_AS, ne_VS, ne_DS, ne_MS, if_false]
theorem pS {H : Hp} {p : Addr} (h : H p = some (.dK (tp l a v d m s))) (z : Int) : DPut H p (.str "salt") (.int z) (upd H p (.dK (tp l a v d m z))) := by
  have := DPut.k (k := (Sum.inr ("salt" : Str) : Key)) (v := V.int z) h (by show 6 < sizeLine; decide)
  rw [q_S] at this
  exact this
end
/-- at p the tape, its cells at l -/
def TapeL (H : Hp) (p l : Addr) : Prop := ∃ (ns : List Int) (a v d m s : Int), H p = some (.dK (tp l a v d m s)) ∧ H l = some (.lst (ns.map V.int)) ∧ 0 ≤ a
def TapeAt (H : Hp) (p : Addr) : Prop := ∃ l, TapeL H p l
/-- all but what is at p stands -/
def But (p : Addr) (H G : Hp) : Prop := ∀ a o, a ≠ p → H a = some o → G a = some o
section
variable {p q : Addr} {H G F : Hp} {o : HO}
theorem But.refl : But p H H := fun _ _ _ e => e
theorem But.trans (h : But p H G) (g : But p G F) : But p H F := fun a o n e => g a o n (h a o n e)
theorem But.put : But p H (upd H p o) := fun a u n e => (upd_ne n).trans e
theorem But.new (n : H q = none) : But p H (upd H q o) := fun a u _ e => (upd_ne (ne_of_none e n)).trans e
theorem But.same (s : Same H G) : But p H G := fun a o _ e => s a o e
/-- an object that was not there at first -/
theorem But.set (h : But p H G) (n : H q = none) : But p H (upd G q o) := fun a u m e => (upd_ne (ne_of_none e n)).trans (h a u m e)
theorem tape_ne {l : Addr} {ns : List Int} {a v d m s : Int} (h1 : H p = some (.dK (tp l a v d m s))) (h2 : H l = some (.lst (ns.map V.int))) : l ≠ p := fun z => by
  rw [z, h1] at h2
  cases h2
theorem TapeL.at {l : Addr} (h : TapeL H p l) : ∃ kvs, H p = some (.dK kvs) := let ⟨_, _, _, _, _, _, h, _⟩ := h; ⟨_, h⟩
theorem TapeAt.at (h : TapeAt H p) : ∃ kvs, H p = some (.dK kvs) := let ⟨_, h⟩ := h; h.at
theorem TapeAt.none (h : TapeAt H p) (n : H q = none) : q ≠ p := fun z => by
  obtain ⟨k, e⟩ := h.at
  rw [z, e] at n
  cases n
theorem TapeL.same {l : Addr} (h : TapeL H p l) (s : Same H G) : TapeL G p l := by
  obtain ⟨ns, a, v, d, m, s', h1, h2, h3⟩ := h
  exact ⟨ns, a, v, d, m, s', s _ _ h1, s _ _ h2, h3⟩
theorem TapeAt.same (h : TapeAt H p) (s : Same H G) : TapeAt G p := let ⟨l, h⟩ := h; ⟨l, h.same s⟩
theorem TapeAt.up (h : TapeAt H p) (n : H q = Option.none) : TapeAt (upd H q o) p := h.same fun _ _ e => (upd_ne (ne_of_none e n)).trans e
/-- something else, no list and not the tape, is changed -/
theorem TapeL.set {l : Addr} (h : TapeL H p l) (qp : q ≠ p) (ql : q ≠ l) : TapeL (upd H q o) p l := by
  obtain ⟨ns, a, v, d, m, s', h1, h2, h3⟩ := h
  exact ⟨ns, a, v, d, m, s', (upd_ne (Ne.symm qp)).trans h1, (upd_ne (Ne.symm ql)).trans h2, h3⟩
end
def spTape (K : PySem.W.Frag) : Sp := fun vs H Q _ => ∃ (a : Addr) (ns : List Int), vs = [.ref a] ∧ SqL K H a (ns.map V.int) ∧ ∀ (p : Addr) (G : Hp), Same H G → H p = none → TapeAt G p → Q (.ref p) G
def spLoad : Sp := fun vs H Q _ => ∃ (p l : Addr) (ns : List Int) (a v d m s : Int), vs = [.ref p] ∧ H p = some (.dK (tp l a v d m s)) ∧ H l = some (.lst (ns.map V.int)) ∧ 0 ≤ a ∧ a < (ns.length : Int) ∧ ∀ G, TapeL G p l → But p H G → Q .non G
def spDraw : Sp := fun vs H Q _ => ∃ (p l : Addr) (k : Int), vs = [.ref p, .int k] ∧ TapeL H p l ∧ k.natAbs < 2 ^ 8000 ∧ ∀ (z : Int) (G : Hp), 0 ≤ z → (z < k ∨ z = 0) → TapeL G p l → But p H G → Q (.int z) G
structure TapeTxt (K : PySem.W.Frag) (mg : Str → Option Value) (fL : Addr) : Prop where
  len : mg "len" = none
  int : mg "int" = none
  abs : mg "abs" = none
  list : mg "list" = none
  range : mg "range" = none
  gL : mg "_law_load" = some (.ref fL)
  kL : PySem.W.keepIn K (.ref fL) = true
section
variable {P : Program} {w : World} {K : PySem.W.Frag} {mg : Str → Option Value} {base : Heap} {fL : Addr}
theorem scTape : FnScope ["script", "salt", nv] ["script"] (defScope sTape) := ⟨rfl, rfl, rfl, by decide +kernel, rfl, by decide +kernel, by decide +kernel⟩
theorem scLoad : FnScope ["tape", nv] ["tape"] (defScope sLoad) := ⟨rfl, rfl, rfl, by decide +kernel, rfl, by decide +kernel, by decide +kernel⟩
theorem scDraw : FnScope ["tape", "many", "turn", "digit"] ["tape", "many"] (defScope sDraw) := ⟨rfl, rfl, rfl, by decide +kernel, rfl, by decide +kernel, by decide +kernel⟩
theorem ok_tape {f : Addr} {fd : FuncData} (F : Fun K "_law_tape" "_law_tape" sTape f fd) (T : TapeTxt K mg fL) : FnOk P w K mg base CX0 1 f fd ["script"] (spTape K) := by
  refine F.ok scTape (fun vs H Q E h => ?_) (fun cdv A outer s H vs Q E hr h => ?_)
  · obtain ⟨a, ns, rfl, _⟩ := h
    rfl
  · obtain ⟨a, ns, rfl, hS, go⟩ := h
    refine ⟨_, (pss_cons (ps_set (i := 1) scTape.nd rfl (Or.inl rfl) (pe_op op_add pe_int (pe_callB call_len_seq (by rfl) T.len PySem.boot_len (pa_cons (pv 0) pa_nil))))
      (pss_cons (ps_for PassesOwn.never rfl (pi_list (pv 0)) (pg_name (i := 2) scTape.nd rfl (Or.inl rfl)) (pss_one (ps_set (i := 1) scTape.nd rfl (Or.inl rfl) (pe_op op_mod (pe_callTy call_int1 (by rfl) T.int (by decide +kernel) (pa_cons (pe_op op_add (pe_op op_add (pe_op op_mul (pv 1) pe_int) (pe_callB call_abs (by rfl) T.abs (by decide +kernel) (pa_cons (pv 2) pa_nil))) pe_int) pa_nil)) pe_int))))
      (pss_one (ps_ret (pe_disp (pps_cons pe_str (pe_callTy call_list_of (by rfl) T.list (by decide +kernel) (pa_cons (pv 0) pa_nil)) (pps_cons pe_str pe_int (pps_cons pe_str pe_int (pps_cons pe_str pe_int (pps_cons pe_str pe_int (pps_cons pe_str (pv 1) pps_nil)))))) (by rfl) (by rfl) (fun z => by cases z) (by decide)))))), ?_⟩
    refine ⟨_, rfl, a, _, rfl, .inl hS, _, _, rfl, rfl, ?_⟩
    refine ⟨_, rfl, a, rfl, ⟨_, hS⟩, for_list (K := K) (a := a) (xs := ns.map V.int) (fun i σ H' => ∃ (m : Int) (v : Option V), σ = [some (.ref a), some (.int m), v] ∧ H' = H) ⟨_, none, rfl, rfl⟩ (fun i σ H' _ ⟨_, _, _, e⟩ => by rw [e]; exact hS) ?_ ?_⟩
    · rintro i y σ H' hi ⟨m, v, rfl, rfl⟩
      obtain ⟨u, rfl⟩ : ∃ u, y = V.int u := by
        rw [List.getElem?_map] at hi
        cases e : ns[i]? with
        | none => rw [e] at hi; cases hi
        | some u => rw [e] at hi; exact ⟨u, (Option.some.inj hi).symm⟩
      refine ⟨_, rfl, _, _, rfl, rfl, .inr (by decide), _, rfl, u, rfl, _, _, rfl, rfl, _, _, rfl, rfl, .inl ⟨_, rfl, ?_⟩⟩
      exact ⟨_, _, rfl, rfl, (by show (0 : Int) < 2147483647; decide), _, _, rfl, rfl⟩
    · rintro σ H' ⟨m, v, rfl, rfl⟩
      intro p np
      have s1 : Same H' (upd H' p (.dK [])) := fun a o e => (upd_ne (ne_of_none e np)).trans e
      refine ⟨_, rfl, a, _, rfl, .inl (s1.seq hS), fun l nl => ?_⟩
      have pl : p ≠ l := ne_of_none (upd_same (H := H')) nl
      refine ⟨_, rfl, (upd_ne pl).trans upd_same, tp l 0 0 0 0 m, rfl, by show 6 ≤ 15; decide, ?_⟩
      have e : mergeK [] (tp l 0 0 0 0 m) = tp l 0 0 0 0 m := by
        exact merge_nd _ [] (by show ([Sum.inr ("cells" : Str), Sum.inr ("at" : Str), Sum.inr ("value" : Str), Sum.inr ("digits" : Str), Sum.inr ("mixed" : Str), Sum.inr ("salt" : Str)] : List Key).Nodup; decide +kernel)
      rw [e]
      refine go p _ (fun b o q => ?_) np ⟨l, ns, 0, 0, 0, 0, m, upd_same, (upd_ne (Ne.symm pl)).trans upd_same, Int.le_refl _⟩
      have bp := ne_of_none q np
      exact (upd_ne bp).trans ((upd_ne (ne_of_none ((upd_ne bp).trans q) nl)).trans ((upd_ne bp).trans q))
theorem ok_load {f : Addr} {fd : FuncData} (F : Fun K "_law_load" "_law_load" sLoad f fd) (T : TapeTxt K mg fL) : FnOk P w K mg base CX0 1 f fd ["tape"] spLoad := by
  refine F.ok scLoad (fun vs H Q E h => ?_) (fun cdv A outer s H vs Q E hr h => ?_)
  · obtain ⟨p, l, ns, a, v, d, m, s, rfl, _⟩ := h
    rfl
  · obtain ⟨p, l, ns, a, v, d, m, s, rfl, h1, h2, a0, an, go⟩ := h
    refine ⟨_, (pss_cons (ps_set (i := 1) scLoad.nd rfl (Or.inl rfl) (pe_ix ix_list (pe_dget (hu_of hr) (pv 0) pe_str (fun _ _ => rfl)) (pe_dget (hu_of hr) (pv 0) pe_str (fun _ _ => rfl)) (fun _ _ => rfl)))
      (pss_cons (ps_dput (hu_of hr) (pv 0) pe_str (pe_op op_add (pe_dget (hu_of hr) (pv 0) pe_str (fun _ _ => rfl)) pe_int) rfl)
      (pss_one (ps_if (pt_cmpR op_eq (pe_op op_mod (pe_callTy call_int1 (by rfl) T.int (by decide +kernel) (pa_cons (pv 1) pa_nil)) pe_int) pe_int (nomark _)) (pss_cons (ps_dput (hu_of hr) (pv 0) pe_str (pe_op op_fdiv (pe_callB call_abs (by rfl) T.abs (by decide +kernel) (pa_cons (pv 1) pa_nil)) pe_int) rfl)
      (pss_one (ps_dput (hu_of hr) (pv 0) pe_str pe_int rfl))) (pss_cons (ps_dput (hu_of hr) (pv 0) pe_str (pe_op op_mod (pe_callTy call_int1 (by rfl) T.int (by decide +kernel) (pa_cons (pe_op op_add (pe_op op_add (pe_op op_mul (pe_dget (hu_of hr) (pv 0) pe_str (fun _ _ => rfl)) pe_int) (pe_op op_fdiv (pe_callB call_abs (by rfl) T.abs (by decide +kernel) (pa_cons (pv 1) pa_nil)) pe_int)) pe_int) pa_nil)) pe_int) rfl)
      (pss_one (ps_dput (hu_of hr) (pv 0) pe_str pe_int rfl))))))), ?_⟩
    obtain ⟨j, rfl⟩ : ∃ j : Nat, a = j := ⟨a.toNat, by omega⟩
    have hj : j < ns.length := by omega
    have hv : (ns.map V.int)[j]? = some (V.int ns[j]) := by simp [hj]
    have lp := tape_ne h1 h2
    refine ⟨_, rfl, p, _, rfl, gC h1, _, rfl, p, _, rfl, gA h1, l, _, _, _, rfl, rfl, SqL.of h2, atI_nat hv, ?_⟩
    refine ⟨_, rfl, p, _, rfl, gA h1, _, _, rfl, rfl, _, rfl, p, _, rfl, pA h1 _, ?_⟩
    have h1' : upd H p (.dK (tp l ((j : Int) + 1) v d m s)) p = some (.dK (tp l ((j : Int) + 1) v d m s)) := upd_same
    have h2' : upd H p (.dK (tp l ((j : Int) + 1) v d m s)) l = some (.lst (ns.map V.int)) := (upd_ne lp).trans h2
    have b1 : But p H (upd H p (.dK (tp l ((j : Int) + 1) v d m s))) := But.put
    generalize upd H p (.dK (tp l ((j : Int) + 1) v d m s)) = G at h1' h2' b1 ⊢
    refine ⟨_, rfl, .inl ⟨_, rfl, _, _, rfl, rfl, (by show (0 : Int) < 2; decide), rfl, _, rfl, ?_⟩⟩
    refine ite2 (fun _ => ?_) (fun _ => ?_)
    · refine ⟨_, rfl, _, rfl, _, _, rfl, rfl, ⟨by decide, by decide⟩, _, rfl, p, _, rfl, pV h1' _, ?_⟩
      refine ⟨_, rfl, p, _, rfl, pD upd_same _, ?_⟩
      rw [upd_upd]
      exact go _ ⟨ns, _, _, _, _, _, upd_same, (upd_ne lp).trans h2', by omega⟩ (b1.trans But.put)
    · refine ⟨_, rfl, p, _, rfl, gS h1', _, _, rfl, rfl, .inr (by decide), _, rfl, _, rfl, _, _, rfl, rfl, ⟨by decide, by decide⟩, _, _, rfl, rfl, _, _, rfl, rfl, .inl ⟨_, rfl, ?_⟩⟩
      refine ⟨_, _, rfl, rfl, (by show (0 : Int) < 2147483647; decide), _, rfl, p, _, rfl, pS h1' _, ?_⟩
      refine ⟨_, rfl, p, _, rfl, pM upd_same _, ?_⟩
      rw [upd_upd]
      exact go _ ⟨ns, _, _, _, _, _, upd_same, (upd_ne lp).trans h2', by omega⟩ (b1.trans But.put)
theorem ok_draw {f : Addr} {fd fdL : FuncData} (F : Fun K "_law_draw" "_law_draw" sDraw f fd) (T : TapeTxt K mg fL) (GL : FnOk P w K mg base CX0 1 fL fdL ["tape"] spLoad) (bL : Binds K fdL ["tape"] []) : FnOk P w K mg base CX0 2 f fd ["tape", "many"] spDraw := by
  refine F.ok scDraw (fun vs H Q E h => ?_) (fun cdv A outer s H vs Q E hr h => ?_)
  · obtain ⟨p, l, k, rfl, _⟩ := h
    rfl
  · obtain ⟨p, l, k, rfl, hf, hk, go⟩ := h
    refine ⟨_, (pss_cons (ps_if (pt_cmpR op_lt (pv 1) pe_int (nomark _)) (pss_one (ps_ret pe_int)) pss_nil)
      (C8.pss_cut (ps_for PassesOwn.never rfl (pi_range1 (by rfl) T.range (pa_cons pe_int pa_nil)) (pg_name (i := 2) scDraw.nd rfl (Or.inl rfl)) (pss_cons (ps_if (PW.pt (pw_and (pt_cmpR op_gt (pe_dget (hu_of hr) (pv 0) pe_str (fun _ _ => rfl)) pe_int (nomark _)) (pw_and1 (pt_cmpR op_gt (pe_dget (hu_of hr) (pv 0) pe_str (fun _ _ => rfl)) pe_int (nomark _))))) (pss_cons (ps_set (i := 3) scDraw.nd rfl (Or.inl rfl) (pe_op op_modN (pe_callTy call_int1 (by rfl) T.int (by decide +kernel) (pa_cons (pe_dget (hu_of hr) (pv 0) pe_str (fun _ _ => rfl)) pa_nil)) (pv 1)))
      (pss_cons (ps_dput (hu_of hr) (pv 0) pe_str (pe_op op_sub (pe_dget (hu_of hr) (pv 0) pe_str (fun _ _ => rfl)) pe_int) rfl)
      (pss_cons (ps_dput (hu_of hr) (pv 0) pe_str (pe_op op_fdivW (pe_dget (hu_of hr) (pv 0) pe_str (fun _ _ => rfl)) (pv 1)) rfl)
      (pss_one (ps_ret (pv 3)))))) pss_nil)
      (pss_cons (ps_if (PW.pt (pw_or (pt_cmpR op_gt (pe_dget (hu_of hr) (pv 0) pe_str (fun _ _ => rfl)) pe_int (nomark _)) (pw_or1 (pt_cmpR op_ge (pe_dget (hu_of hr) (pv 0) pe_str (fun _ _ => rfl)) (pe_callB call_len_seq (by rfl) T.len PySem.boot_len (pa_cons (pe_dget (hu_of hr) (pv 0) pe_str (fun _ _ => rfl)) pa_nil)) (nomark _))))) (pss_one ps_break) pss_nil)
      (pss_one (ps_expr (pe_call GL (hr.mono (by decide)) rfl T.gL T.kL bL .nil pass0 (pa_cons (pv 0) pa_nil))))))) (C8.pss_cut (ps_if (pt_cmpR op_gt (pe_dget (hu_of hr) (pv 0) pe_str (fun _ _ => rfl)) pe_int (nomark _)) (pss_one (ps_dput (hu_of hr) (pv 0) pe_str (pe_op op_sub (pe_dget (hu_of hr) (pv 0) pe_str (fun _ _ => rfl)) pe_int) rfl)) pss_nil) (pss_cons (ps_dput (hu_of hr) (pv 0) pe_str (pe_op op_mod (pe_callTy call_int1 (by rfl) T.int (by decide +kernel) (pa_cons (pe_op op_add (pe_op op_mul (pe_dget (hu_of hr) (pv 0) pe_str (fun _ _ => rfl)) pe_int) pe_int) pa_nil)) pe_int) rfl)
      (pss_one (ps_ret (pe_op op_modN (pe_op op_mod (pe_callTy call_int1 (by rfl) T.int (by decide +kernel) (pa_cons (pe_op op_add (pe_op op_mul (pe_op op_fdiv (pe_dget (hu_of hr) (pv 0) pe_str (fun _ _ => rfl)) pe_int) pe_int) pe_int) pa_nil)) pe_int) (pv 1)))))))), ?_⟩
    refine ⟨_, rfl, _, _, rfl, rfl, _, rfl, ?_⟩
    refine ite2 (fun _ => go 0 H (Int.le_refl _) (.inr rfl) hf But.refl) (fun hc => ?_)
    have k2 : 2 ≤ k := by
      have : ¬ k < 2 := fun q => hc (decide_eq_true q)
      omega
    have k0 : 0 < k := by omega
    show C8.tCut _ _ _ _ H
    refine ⟨fun σ G => ∃ u2 u3 : Option V, σ = [some (.ref p), some (.int k), u2, u3] ∧ TapeL G p l ∧ But p H G, ?_, ?_⟩
    · refine ⟨64, rfl, by decide, by decide, for_range (lo := 0) (n := 64) (fun i σ G => ∃ u2 u3 : Option V, σ = [some (.ref p), some (.int k), u2, u3] ∧ TapeL G p l ∧ But p H G) ⟨_, _, rfl, hf, But.refl⟩ (fun i σ G hi ⟨u2, u3, hσ, tG, bG⟩ => ?_) (fun σ G h => h)⟩
      subst hσ
      obtain ⟨ns, a, v, d, m, s', h1, h2, a0⟩ := tG
      have lp := tape_ne h1 h2
      refine ⟨_, rfl, p, _, rfl, gD h1, _, _, rfl, rfl, _, rfl, ?_⟩
      refine ite2 (fun _ => ⟨_, rfl, p, _, rfl, gV h1, _, _, rfl, rfl, _, rfl, ite2 (fun _ => ?a) (fun _ => ?b)⟩) (fun _ => ?c)
      case a =>
        refine ⟨_, rfl, p, _, rfl, gV h1, .inl ⟨_, rfl, _, rfl, _, _, rfl, rfl, Int.ne_of_gt k0, ?_⟩⟩
        refine ⟨_, rfl, p, _, rfl, gD h1, _, _, rfl, rfl, _, rfl, p, _, rfl, pD h1 _, ?_⟩
        refine ⟨_, rfl, p, _, rfl, gV upd_same, _, rfl, _, _, rfl, rfl, wide_div k0 (b := 8000) hk (by decide) (by decide), _, rfl, p, _, rfl, pV upd_same _, _, rfl, ?_⟩
        rw [upd_upd]
        exact go _ _ (Int.fmod_nonneg_of_pos _ k0) (.inl (Int.fmod_lt_of_pos _ k0)) ⟨ns, _, _, _, _, _, upd_same, (upd_ne lp).trans h2, a0⟩ (bG.trans But.put)
      all_goals
        refine ⟨_, rfl, p, _, rfl, gM h1, _, _, rfl, rfl, _, rfl, ?_⟩
        refine ite2 (fun _ => ⟨_, _, rfl, ⟨ns, _, _, _, _, _, h1, h2, a0⟩, bG⟩) (fun _ => ?_)
        refine ⟨_, rfl, p, _, rfl, gA h1, _, rfl, p, _, rfl, gC h1, l, _, rfl, .inl (SqL.of h2), _, _, rfl, rfl, _, rfl, ?_⟩
        refine ite2 (fun _ => ⟨_, _, rfl, ⟨ns, _, _, _, _, _, h1, h2, a0⟩, bG⟩) (fun hl => ?_)
        have lt : a < (ns.length : Int) := by
          have : ¬ ((ns.map V.int).length : Int) ≤ a := fun q => hl (decide_eq_true q)
          rw [List.length_map] at this
          omega
        refine ⟨_, rfl, p, l, ns, a, v, d, m, s', rfl, h1, h2, a0, lt, fun G2 t2 b2 => ?_⟩
        exact ⟨_, _, rfl, t2, bG.trans b2⟩
    · rintro σ G ⟨u2, u3, rfl, ⟨ns, a, v, d, m, s', h1, h2, a0⟩, bG⟩
      have lp := tape_ne h1 h2
      show C8.tCut _ _ _ _ G
      refine ⟨fun σ G => ∃ u2 u3 : Option V, σ = [some (.ref p), some (.int k), u2, u3] ∧ TapeL G p l ∧ But p H G, ?_, ?_⟩
      · refine ⟨_, rfl, p, _, rfl, gM h1, _, _, rfl, rfl, _, rfl, ?_⟩
        refine ite2 (fun _ => ?_) (fun _ => ⟨_, _, rfl, ⟨ns, _, _, _, _, _, h1, h2, a0⟩, bG⟩)
        refine ⟨_, rfl, p, _, rfl, gM h1, _, _, rfl, rfl, _, rfl, p, _, rfl, pM h1 _, ?_⟩
        exact ⟨_, _, rfl, ⟨ns, _, _, _, _, _, upd_same, (upd_ne lp).trans h2, a0⟩, bG.trans But.put⟩
      · clear h1 h2 a0 lp bG
        rintro σ G ⟨u2, u3, rfl, ⟨ns, a, v, d, m, s', h1, h2, a0⟩, bG⟩
        have lp := tape_ne h1 h2
        refine ⟨_, rfl, p, _, rfl, gS h1, _, _, rfl, rfl, .inr (by decide), _, _, rfl, rfl, .inl ⟨_, rfl, ?_⟩⟩
        refine ⟨_, _, rfl, rfl, (by show (0 : Int) < 2147483647; decide), _, rfl, p, _, rfl, pS h1 _, ?_⟩
        refine ⟨_, rfl, p, _, rfl, gS upd_same, _, _, rfl, rfl, ⟨by decide, by decide⟩, _, _, rfl, rfl, .inr (by decide), _, _, rfl, rfl, .inl ⟨_, rfl, ?_⟩⟩
        refine ⟨_, _, rfl, rfl, (by show (0 : Int) < 1000003; decide), _, rfl, _, _, rfl, rfl, Int.ne_of_gt k0, ?_⟩
        exact go _ _ (Int.fmod_nonneg_of_pos _ k0) (.inl (Int.fmod_lt_of_pos _ k0)) ⟨ns, _, _, _, _, _, upd_same, (upd_ne lp).trans h2, a0⟩ (bG.trans But.put)
end
end K3

set_option Elab.async false
set_option linter.all false
set_option maxRecDepth 100000
set_option maxHeartbeats 4000000
set_option autoImplicit false
set_option pp.maxSteps 600
/-! The law's own comparison of what the program told with what is due. -/
namespace K3
open PySem L2 K1D K2P
abbrev sSame : Stmt := K2P.top 35
def tI (K : PySem.W.Frag) (i : Nat) (T : String) : TE := tCB (rIsi K) (tCons (tVar i) (tCons (tC (.ty T)) tNil))
theorem isi {K : PySem.W.Frag} {σ : L2.St} {H : Hp} {i : Nat} {a T : String} {x : V} {b : Bool} {R : VK} (hs : σ[i]? = some (some x)) (ty : TyOf K H x (.type a)) (k : kitB a T = some b) (go : R (.bl b) H) : tI K i T σ H R :=
  ⟨x, hs, x, .ty T, .type a, .type T, b, rfl, .ty T, .base ty, kit_ty k, go⟩
/-- x and y hold the same, at most n deep -/
inductive Alike (H : Hp) : Nat → V → V → Prop
  | non (n : Nat) : Alike H n .non .non
  | int (n : Nat) (i : Int) : Alike H n (.int i) (.int i)
  | str (n : Nat) (x : Str) : Alike H n (.str x) (.str x)
  | tup {n : Nat} {p q : Addr} {xs ys : List V} (hp : H p = some (.tup xs)) (hq : H q = some (.tup ys)) (l : xs.length = ys.length) (s : xs.length ≤ sizeLine) (h : ∀ (i : Nat) (x y : V), xs[i]? = some x → ys[i]? = some y → Alike H n x y) : Alike H (n + 1) (.ref p) (.ref q)
theorem Alike.up {H H' : Hp} (sm : Same H H') : ∀ {n : Nat} {x y : V}, Alike H n x y → Alike H' n x y := by
  intro n x y h
  induction h with
  | non n => exact .non n
  | int n i => exact .int n i
  | str n x => exact .str n x
  | tup hp hq l s _ ih => exact .tup (sm _ _ hp) (sm _ _ hq) l s ih
def spSame (n : Nat) : Sp := fun vs H Q _ => ∃ x y : V, vs = [x, y] ∧ Alike H n x y ∧ ∀ H', Same H H' → Q (.bl true) H'
structure SameTxt (K : PySem.W.Frag) (mg : Str → Option Value) (fS : Addr) : Prop where
  isinst : mg "isinstance" = none
  tuple : mg "tuple" = none
  list : mg "list" = none
  str : mg "str" = none
  bool : mg "bool" = none
  int : mg "int" = none
  len : mg "len" = none
  range : mg "range" = none
  gS : mg "_law_same" = some (.ref fS)
  kS : PySem.W.keepIn K (.ref fS) = true
section
variable {P : Program} {w : World} {K : PySem.W.Frag} {mg : Str → Option Value} {base : Heap} {fS : Addr}
theorem scS : FnScope ["actual", "due", "k"] ["actual", "due"] (defScope sSame) := ⟨rfl, rfl, rfl, by decide +kernel, rfl, by decide +kernel, by decide +kernel⟩
def rIsV : R2 := fun x y H Q => y = .non ∧ Q (.bl (decide (x = .non))) H
def tTail (K : PySem.W.Frag) : TS := tSeq (tIfS (tTest (tOp rIsV (tVar 1) (tC .non))) (tRet (tOp rIsV (tVar 0) (tC .non))) tNext) (tSeq (tIfS (tTest (tI K 1 "bool")) (tRet (tAndV (tI K 0 "bool") (tOp rEq (tVar 0) (tVar 1)))) tNext) (tSeq (tIfS (tTest (tI K 1 "str")) (tRet (tAndV (tI K 0 "str") (tOp rEq (tVar 0) (tVar 1)))) tNext)
      (tRet (tAndV (tI K 0 "int") (tAndV (tNotV (tI K 0 "bool")) (tOp rEq (tVar 0) (tVar 1)))))))
theorem leaf {σ : L2.St} {H : Hp} {D : Ends} {x y : V} {n : Nat} (al : Alike H n x y) (h0 : σ[0]? = some (some x)) (h1 : σ[1]? = some (some y)) (nt : ∀ p, y ≠ .ref p) (go : D.rt (.bl true) H) : tTail K D σ H := by
  cases al with
  | non n => exact ⟨_, h1, rfl, _, rfl, ifY (by decide) ⟨_, h0, rfl, go⟩⟩
  | str n z =>
    refine ⟨_, h1, rfl, _, rfl, ifN (by simp) ?_⟩
    refine isi h1 (.str z) (by decide +kernel) ⟨_, rfl, ifN rfl ?_⟩
    refine isi h1 (.str z) (by decide +kernel) ⟨_, rfl, ifY rfl ?_⟩
    refine isi h0 (.str z) (by decide +kernel) ⟨true, rfl, ifY rfl ⟨_, h0, _, h1, rfl, ?_⟩⟩
    rw [decide_eq_true (rfl : V.str z = V.str z)]
    exact go
  | int n z =>
    refine ⟨_, h1, rfl, _, rfl, ifN (by simp) ?_⟩
    refine isi h1 (.int z) (by decide +kernel) ⟨_, rfl, ifN rfl ?_⟩
    refine isi h1 (.int z) (by decide +kernel) ⟨_, rfl, ifN rfl ?_⟩
    refine isi h0 (.int z) (by decide +kernel) ⟨true, rfl, ifY rfl ?_⟩
    refine isi h0 (.int z) (by decide +kernel) ⟨false, rfl, true, rfl, ifY rfl ⟨_, h0, _, h1, rfl, ?_⟩⟩
    rw [decide_eq_true (rfl : V.int z = V.int z)]
    exact go
  | tup _ _ _ _ _ => exact absurd rfl (nt _)
theorem Alike.ty {H : Hp} {n : Nat} {x y : V} (al : Alike H n x y) (nt : ∀ p, y ≠ .ref p) : ∃ a, TyOf K H y (.type a) ∧ kitB a "tuple" = some false ∧ kitB a "list" = some false := by
  cases al with
  | non n => exact ⟨_, .non, by decide +kernel, by decide +kernel⟩
  | str n z => exact ⟨_, .str z, by decide +kernel, by decide +kernel⟩
  | int n z => exact ⟨_, .int z, by decide +kernel, by decide +kernel⟩
  | tup _ _ _ _ _ => exact absurd rfl (nt _)
theorem ok_same0 {fd : FuncData} (F : Fun K "_law_same" "_law_same" sSame fS fd) (T : SameTxt K mg fS) : FnOk P w K mg base CX0 1 fS fd ["actual", "due"] (spSame 0) := by
  refine F.ok scS (fun vs H Q E h => ?_) (fun cdv A outer s H vs Q E hr h => ?_)
  · obtain ⟨x, y, rfl, _⟩ := h
    rfl
  · obtain ⟨x, y, rfl, al, go⟩ := h
    have nt : ∀ p, y ≠ .ref p := fun p z => by
      subst z
      cases al
    refine ⟨_, pss_cons (ps_if (PW.pt (pw_or (pt_val (pe_callB call_isi (by rfl) T.isinst (by decide +kernel) (pa_cons (pv 1) (pa_cons (pe_bltn (v := .ty "tuple") (u := .type "tuple") (by rfl) T.tuple (by decide +kernel) (by exact rfl)) pa_nil)))) (pw_or1 (pt_val (pe_callB call_isi (by rfl) T.isinst (by decide +kernel) (pa_cons (pv 1) (pa_cons (pe_bltn (v := .ty "list") (u := .type "list") (by rfl) T.list (by decide +kernel) (by exact rfl)) pa_nil))))))) pss_never pss_nil)
      (pss_cons (ps_if (pt_cmpR op_isN (pv 1) pe_non (nomark _)) (pss_one (ps_ret (pe_cmpR op_isN (pv 0) pe_non (nomark _)))) pss_nil)
      (pss_cons (ps_if (pt_val (pe_callB call_isi (by rfl) T.isinst (by decide +kernel) (pa_cons (pv 1) (pa_cons (pe_bltn (v := .ty "bool") (u := .type "bool") (by rfl) T.bool (by decide +kernel) (by exact rfl)) pa_nil)))) (pss_one (ps_ret (pe_and (pe_callB call_isi (by rfl) T.isinst (by decide +kernel) (pa_cons (pv 0) (pa_cons (pe_bltn (v := .ty "bool") (u := .type "bool") (by rfl) T.bool (by decide +kernel) (by exact rfl)) pa_nil))) (pe_one (pe_cmpR op_eq (pv 0) (pv 1) (nomark _)))))) pss_nil)
      (pss_cons (ps_if (pt_val (pe_callB call_isi (by rfl) T.isinst (by decide +kernel) (pa_cons (pv 1) (pa_cons (pe_bltn (v := .ty "str") (u := .type "str") (by rfl) T.str (by decide +kernel) (by exact rfl)) pa_nil)))) (pss_one (ps_ret (pe_and (pe_callB call_isi (by rfl) T.isinst (by decide +kernel) (pa_cons (pv 0) (pa_cons (pe_bltn (v := .ty "str") (u := .type "str") (by rfl) T.str (by decide +kernel) (by exact rfl)) pa_nil))) (pe_one (pe_cmpR op_eq (pv 0) (pv 1) (nomark _)))))) pss_nil)
      (pss_one (ps_ret (pe_and (pe_callB call_isi (by rfl) T.isinst (by decide +kernel) (pa_cons (pv 0) (pa_cons (pe_bltn (v := .ty "int") (u := .type "int") (by rfl) T.int (by decide +kernel) (by exact rfl)) pa_nil))) (pe_and (pe_not (pe_callB call_isi (by rfl) T.isinst (by decide +kernel) (pa_cons (pv 0) (pa_cons (pe_bltn (v := .ty "bool") (u := .type "bool") (by rfl) T.bool (by decide +kernel) (by exact rfl)) pa_nil)))) (pe_one (pe_cmpR op_eq (pv 0) (pv 1) (nomark _)))))))))), ?_⟩
    obtain ⟨a, ty, k1, k2⟩ := al.ty (K := K) nt
    refine isi (K := K) rfl ty k1 ⟨_, rfl, ifN rfl ?_⟩
    refine isi (K := K) rfl ty k2 ⟨_, rfl, ifN rfl ?_⟩
    show tTail K _ _ H
    exact leaf (K := K) al rfl rfl nt (go H (Same.refl H))
theorem ok_sameS {n k : Nat} {fd : FuncData} (F : Fun K "_law_same" "_law_same" sSame fS fd) (bS : Binds K fd ["actual", "due"] []) (T : SameTxt K mg fS) (G : FnOk P w K mg base CX0 k fS fd ["actual", "due"] (spSame n)) : FnOk P w K mg base CX0 (k + 1) fS fd ["actual", "due"] (spSame (n + 1)) := by
  refine F.ok scS (fun vs H Q E h => ?_) (fun cdv A outer s H vs Q E hr h => ?_)
  · obtain ⟨x, y, rfl, _⟩ := h
    rfl
  · obtain ⟨x, y, rfl, al, go⟩ := h
    refine ⟨_, pss_cons (ps_if (PW.pt (pw_or (pt_val (pe_callB call_isi (by rfl) T.isinst (by decide +kernel) (pa_cons (pv 1) (pa_cons (pe_bltn (v := .ty "tuple") (u := .type "tuple") (by rfl) T.tuple (by decide +kernel) (by exact rfl)) pa_nil)))) (pw_or1 (pt_val (pe_callB call_isi (by rfl) T.isinst (by decide +kernel) (pa_cons (pv 1) (pa_cons (pe_bltn (v := .ty "list") (u := .type "list") (by rfl) T.list (by decide +kernel) (by exact rfl)) pa_nil))))))) (pss_cons (ps_if (PW.pt (pw_or (pt_cmpR op_ne (pe_callB call_isi (by rfl) T.isinst (by decide +kernel) (pa_cons (pv 1) (pa_cons (pe_bltn (v := .ty "tuple") (u := .type "tuple") (by rfl) T.tuple (by decide +kernel) (by exact rfl)) pa_nil))) (pe_callB call_isi (by rfl) T.isinst (by decide +kernel) (pa_cons (pv 0) (pa_cons (pe_bltn (v := .ty "tuple") (u := .type "tuple") (by rfl) T.tuple (by decide +kernel) (by exact rfl)) pa_nil))) (nomark _)) (pw_or1 (pt_cmpR op_ne (pe_callB call_isi (by rfl) T.isinst (by decide +kernel) (pa_cons (pv 1) (pa_cons (pe_bltn (v := .ty "list") (u := .type "list") (by rfl) T.list (by decide +kernel) (by exact rfl)) pa_nil))) (pe_callB call_isi (by rfl) T.isinst (by decide +kernel) (pa_cons (pv 0) (pa_cons (pe_bltn (v := .ty "list") (u := .type "list") (by rfl) T.list (by decide +kernel) (by exact rfl)) pa_nil))) (nomark _))))) (pss_one (ps_ret (pe_bl))) pss_nil)
        (pss_cons (ps_if (pt_cmpR op_ne (pe_callB call_len_seq (by rfl) T.len PySem.boot_len (pa_cons (pv 0) pa_nil)) (pe_callB call_len_seq (by rfl) T.len PySem.boot_len (pa_cons (pv 1) pa_nil)) (nomark _)) (pss_one (ps_ret (pe_bl))) pss_nil)
        (pss_cons (ps_for PassesOwn.never rfl (pi_range1 (by rfl) T.range (pa_cons (pe_callB call_len_seq (by rfl) T.len PySem.boot_len (pa_cons (pv 1) pa_nil)) pa_nil)) (pg_name (i := 2) scS.nd rfl (Or.inl rfl))
          (pss_one (ps_if (pt_not (pt_val (pe_call G hr rfl T.gS T.kS bS .nil pass0 (pa_cons (pe_ix ix_tup (pv 0) (pv 2) (fun _ _ => rfl)) (pa_cons (pe_ix ix_tup (pv 1) (pv 2) (fun _ _ => rfl)) pa_nil))))) (pss_one (ps_ret (pe_bl))) pss_nil)))
        (pss_one (ps_ret (pe_bl)))))) pss_nil)
      (pss_cons (ps_if (pt_cmpR op_isN (pv 1) pe_non (nomark _)) (pss_one (ps_ret (pe_cmpR op_isN (pv 0) pe_non (nomark _)))) pss_nil)
      (pss_cons (ps_if (pt_val (pe_callB call_isi (by rfl) T.isinst (by decide +kernel) (pa_cons (pv 1) (pa_cons (pe_bltn (v := .ty "bool") (u := .type "bool") (by rfl) T.bool (by decide +kernel) (by exact rfl)) pa_nil)))) (pss_one (ps_ret (pe_and (pe_callB call_isi (by rfl) T.isinst (by decide +kernel) (pa_cons (pv 0) (pa_cons (pe_bltn (v := .ty "bool") (u := .type "bool") (by rfl) T.bool (by decide +kernel) (by exact rfl)) pa_nil))) (pe_one (pe_cmpR op_eq (pv 0) (pv 1) (nomark _)))))) pss_nil)
      (pss_cons (ps_if (pt_val (pe_callB call_isi (by rfl) T.isinst (by decide +kernel) (pa_cons (pv 1) (pa_cons (pe_bltn (v := .ty "str") (u := .type "str") (by rfl) T.str (by decide +kernel) (by exact rfl)) pa_nil)))) (pss_one (ps_ret (pe_and (pe_callB call_isi (by rfl) T.isinst (by decide +kernel) (pa_cons (pv 0) (pa_cons (pe_bltn (v := .ty "str") (u := .type "str") (by rfl) T.str (by decide +kernel) (by exact rfl)) pa_nil))) (pe_one (pe_cmpR op_eq (pv 0) (pv 1) (nomark _)))))) pss_nil)
      (pss_one (ps_ret (pe_and (pe_callB call_isi (by rfl) T.isinst (by decide +kernel) (pa_cons (pv 0) (pa_cons (pe_bltn (v := .ty "int") (u := .type "int") (by rfl) T.int (by decide +kernel) (by exact rfl)) pa_nil))) (pe_and (pe_not (pe_callB call_isi (by rfl) T.isinst (by decide +kernel) (pa_cons (pv 0) (pa_cons (pe_bltn (v := .ty "bool") (u := .type "bool") (by rfl) T.bool (by decide +kernel) (by exact rfl)) pa_nil)))) (pe_one (pe_cmpR op_eq (pv 0) (pv 1) (nomark _)))))))))), ?_⟩
    by_cases nt : ∀ p, y ≠ .ref p
    · obtain ⟨a, ty, k1, k2⟩ := al.ty (K := K) nt
      refine isi (K := K) rfl ty k1 ⟨_, rfl, ifN rfl ?_⟩
      refine isi (K := K) rfl ty k2 ⟨_, rfl, ifN rfl ?_⟩
      show tTail K _ _ H
      exact leaf (K := K) al rfl rfl nt (go H (Same.refl H))
    · cases al with
      | non => exact absurd (fun p z => by cases z) nt
      | int _ i => exact absurd (fun p z => by cases z) nt
      | str _ x => exact absurd (fun p z => by cases z) nt
      | tup hp hq l sz h =>
        rename_i p q xs ys
        refine isi (K := K) (b := true) rfl (.tup hq) (by decide +kernel) ⟨_, rfl, ifY rfl ?_⟩
        refine isi (K := K) (b := true) rfl (.tup hq) (by decide +kernel) (isi (K := K) (b := true) rfl (.tup hp) (by decide +kernel) ⟨rfl, _, rfl, ifN (by decide) ?_⟩)
        refine isi (K := K) (b := false) rfl (.tup hq) (by decide +kernel) (isi (K := K) (b := false) rfl (.tup hp) (by decide +kernel) ⟨rfl, _, rfl, ifN (by decide) ?_⟩)
        refine ⟨_, rfl, p, xs, rfl, .inr (SqT.of hp), _, rfl, q, ys, rfl, .inr (SqT.of hq), rfl, _, rfl, ifN (by rw [l]; simp) ?_⟩
        refine ⟨_, rfl, q, ys, rfl, .inr (SqT.of hq), (ys.length : Int), rfl, by omega, by rw [sizeLine_eq] at sz; omega, for_range (lo := 0) (n := ys.length) (fun i σ G => ∃ u, σ = [some (.ref p), some (.ref q), u] ∧ Same H G) ⟨_, rfl, Same.refl H⟩ (fun i σ G hi ⟨u, hσ, sG⟩ => ?_) (fun σ G ⟨u, hσ, sG⟩ => ?_)⟩
        · subst hσ
          have hx : xs[i]? = some (xs[i]'(by omega)) := by simp
          have hy : ys[i]? = some ys[i] := by simp
          refine ⟨_, rfl, _, rfl, p, xs, _, _, rfl, rfl, SqT.of (sG _ _ hp), at_of (Int.zero_add _) hx, _, rfl, _, rfl, q, ys, _, _, rfl, rfl, SqT.of (sG _ _ hq), at_of (Int.zero_add _) hy, _, _, rfl, (h i _ _ hx hy).up sG, fun G2 s2 => ⟨true, rfl, ?_⟩⟩
          exact ifN rfl ⟨_, rfl, sG.trans s2⟩
        · subst hσ
          exact go G sG
theorem term_at {K : PySem.W.Frag} {H : Hp} {p : Poly} {xs : List V} (h : KeyVs K H (p.map K2P.termK) xs) {i : Nat} {v : V} (e : xs[i]? = some v) : ∃ t, p[i]? = some t ∧ KeyV K H (K2P.termK t) v := by
  obtain ⟨k, hk, kv⟩ := keyVs_get h e
  rw [List.getElem?_map] at hk
  cases q : p[i]? with
  | none => rw [q] at hk; cases hk
  | some t =>
    rw [q] at hk
    cases hk
    exact ⟨t, rfl, kv⟩
end
end K3

set_option Elab.async false
set_option linter.all false
set_option maxRecDepth 100000
set_option maxHeartbeats 8000000
set_option autoImplicit false
set_option pp.maxSteps 600
/-! The law's names and factors. -/
namespace K3
open PySem L2 K1D K2P
abbrev sSigns : Stmt := K2P.top 36
abbrev sFactor : Stmt := K2P.top 37
def NmOk (x : Str) : Prop := x.length ≤ 6 ∧ PyData.strOk x = true
theorem strOk_iff (x : Str) : PyData.strOk x = true ↔ ∀ c ∈ x.cps.toList, c < 0x110000 := by
  unfold PyData.strOk
  rw [← Array.all_toList, List.all_eq_true]
  exact ⟨fun h c hc => of_decide_eq_true (h c hc), fun h c hc => decide_eq_true (h c hc)⟩
theorem strOk_app {x y : Str} (h : PyData.strOk x = true) (g : PyData.strOk y = true) : PyData.strOk (x ++ y) = true := by
  rw [strOk_iff] at *
  intro c hc
  have e : (x ++ y).cps.toList = x.cps.toList ++ y.cps.toList := Array.toList_append
  rw [e] at hc
  exact (List.mem_append.mp hc).elim (h c) (g c)
theorem char_at {z : Str} {j : Nat} (h : j < z.cps.toList.length) (ok : PyData.strOk z = true) : ∃ c, z.cps.toList[j]? = some c ∧ PyData.strOk ⟨#[c]⟩ = true := by
  refine ⟨z.cps.toList[j], List.getElem?_eq_getElem h, ?_⟩
  rw [strOk_iff]
  intro c hc
  have : c = z.cps.toList[j] := by simpa using hc
  rw [this]
  exact (strOk_iff z).mp ok _ (List.getElem_mem h)
theorem in_strs (s : Str) (l : List Str) : inV (.str s) (l.map V.str) = decide (s ∈ l) := by
  unfold inV
  rw [List.any_map]
  have : ∀ y : Str, ((fun y => eqV y (V.str s)) ∘ V.str) y = decide (y = s) := fun y => by
    show (y == s) = _
    by_cases h : y = s
    · rw [h]; simp
    · simp [h]
  rw [show ((fun y => eqV y (V.str s)) ∘ V.str) = fun y => decide (y = s) from funext this]
  by_cases h : s ∈ l
  · rw [decide_eq_true h, List.any_eq_true]
    exact ⟨s, h, decide_eq_true rfl⟩
  · rw [decide_eq_false h, List.any_eq_false]
    intro y hy e
    rw [decide_eq_true_eq] at e
    rw [e] at hy
    exact h hy
/-- the law's names -/
structure Sg (ns : List Str) : Prop where
  nd : ns.Nodup
  ne : ns ≠ []
  l6 : ns.length ≤ 6
  nm : ∀ x ∈ ns, NmOk x
structure DrawTxt (P : Program) (w : World) (K : PySem.W.Frag) (mg : Str → Option Value) (base : Heap) (fD : Addr) (dD : FuncData) : Prop where
  d : CallT P w K mg base CX0 2 "_law_draw" ["tape", "many"] spDraw fD dD
  range : mg "range" = none
  list : mg "list" = none
  tuple : mg "tuple" = none
  sorted : mg "sorted" = none
  len : mg "len" = none
def spSigns : Sp := fun vs H Q _ => ∃ (p l : Addr), vs = [.ref p] ∧ TapeL H p l ∧ ∀ (a : Addr) (ns : List Str) (G : Hp), TapeL G p l → But p H G → H a = none → G a = some (.lst (ns.map V.str)) → Sg ns → Q (.ref a) G
def spFactor : Sp := fun vs H Q _ => ∃ (p l : Addr) (g : Nat), vs = [.ref p, .int g] ∧ TapeL H p l ∧ 1000000 ≤ g ∧ g < 2 ^ 8000 ∧ ∀ (z : Int) (G : Hp), z ≠ 0 → z.natAbs ≤ g → TapeL G p l → But p H G → Q (.int z) G
theorem TapeL.none {H : Hp} {p l q : Addr} (h : TapeL H p l) (n : H q = Option.none) : q ≠ p ∧ q ≠ l := by
  obtain ⟨ns, a, v, d, m, s, h1, h2, _⟩ := h
  exact ⟨fun z => (by rw [z, h1] at n; cases n), fun z => (by rw [z, h2] at n; cases n)⟩
theorem TapeL.up {H : Hp} {p l q : Addr} {o : HO} (h : TapeL H p l) (n : H q = Option.none) : TapeL (upd H q o) p l := h.same fun _ _ e => (upd_ne (ne_of_none e n)).trans e
theorem but_none {H G : Hp} {p l q : Addr} (b : But p H G) (t : TapeL G p l) (n : G q = none) : H q = none := by
  cases e : H q with
  | none => rfl
  | some o => rw [b q o (t.none n).1 e] at n; cases n
theorem b8000 {n : Nat} {z : Int} (h : z.natAbs < 2 ^ n) (le : n ≤ 8000) : z.natAbs < 2 ^ 8000 := Nat.lt_of_lt_of_le h (Nat.pow_le_pow_right (by decide) le)
section
variable {P : Program} {w : World} {K : PySem.W.Frag} {mg : Str → Option Value} {base : Heap} {fD : Addr} {dD : FuncData}
theorem scSigns : FnScope ["tape", "found", "k", "name", "turn", "sign"] ["tape"] (defScope sSigns) := ⟨rfl, rfl, rfl, by decide +kernel, rfl, by decide +kernel, by decide +kernel⟩
theorem scFactor : FnScope ["tape", "great", nv] ["tape", "great"] (defScope sFactor) := ⟨rfl, rfl, rfl, by decide +kernel, rfl, by decide +kernel, by decide +kernel⟩
theorem ok_signs {f : Addr} {fd : FuncData} (F : Fun K "_law_signs" "_law_signs" sSigns f fd) (Z : DrawTxt P w K mg base fD dD) : FnOk P w K mg base CX0 3 f fd ["tape"] spSigns := by
  refine F.ok scSigns (fun vs H Q E h => ?_) (fun cdv A outer s H vs Q E hr h => ?_)
  · obtain ⟨p, l, rfl, _⟩ := h
    rfl
  · obtain ⟨p, l, rfl, hf, go⟩ := h
    refine ⟨_, (pss_cons (ps_set (i := 1) scSigns.nd rfl (Or.inl rfl) (pe_lst pa_nil))
      (pss_cons (ps_for PassesOwn.never rfl (pi_range1 (by rfl) Z.range (pa_cons (pe_op op_add pe_int (pe_call Z.d.ok (hr.mono (by decide)) rfl Z.d.g Z.d.k Z.d.b .nil pass0 (pa_cons (pv 0) (pa_cons pe_int pa_nil)))) pa_nil)) (pg_name (i := 2) scSigns.nd rfl (Or.inl rfl)) (pss_cons (ps_set (i := 3) scSigns.nd rfl (Or.inl rfl) pe_str)
      (pss_cons (ps_for PassesOwn.never rfl (pi_range1 (by rfl) Z.range (pa_cons (pe_op op_add pe_int (pe_call Z.d.ok (hr.mono (by decide)) rfl Z.d.g Z.d.k Z.d.b .nil pass0 (pa_cons (pv 0) (pa_cons (pe_ix ix_list (pe_lst (pa_cons pe_int (pa_cons pe_int (pa_cons pe_int (pa_cons pe_int pa_nil))))) (pe_call Z.d.ok (hr.mono (by decide)) rfl Z.d.g Z.d.k Z.d.b .nil pass0 (pa_cons (pv 0) (pa_cons pe_int pa_nil))) (fun _ _ => rfl)) pa_nil)))) pa_nil)) (pg_name (i := 4) scSigns.nd rfl (Or.inl rfl)) (pss_one (ps_set (i := 3) scSigns.nd rfl (Or.inl rfl) (pe_op op_add_str (pv 3) (pe_ix ix_str pe_str (pe_call Z.d.ok (hr.mono (by decide)) rfl Z.d.g Z.d.k Z.d.b .nil pass0 (pa_cons (pv 0) (pa_cons pe_int pa_nil))) (fun _ _ => rfl))))))
      (pss_cons (ps_set (i := 5) scSigns.nd rfl (Or.inl rfl) (pe_op op_add_str (pe_op op_add_str (pe_ix ix_str pe_str (pe_call Z.d.ok (hr.mono (by decide)) rfl Z.d.g Z.d.k Z.d.b .nil pass0 (pa_cons (pv 0) (pa_cons pe_int pa_nil))) (fun _ _ => rfl)) pe_str) (pv 3)))
      (pss_one (ps_if (pt_cmpR op_notIn_seq (pv 5) (pv 1) (by rfl)) (pss_one (ps_expr (pe_bm PySem.F.plainAttrs_list PySem.F.slot_list_append PySem.F.type_list_append mt_append (pv 1) (pa_cons (pv 5) pa_nil)))) pss_nil))))))
      (pss_one (ps_ret (pv 1))))), ?_⟩
    refine ⟨by show 0 ≤ sizeLine; exact Nat.zero_le _, fun q nq => ?_⟩
    obtain ⟨qp, ql⟩ := hf.none nq
    have f1 := hf.up (o := .lst []) nq
    have b1 : But p H (upd H q (.lst [])) := But.new nq
    have e1 : upd H q (.lst []) q = some (.lst []) := upd_same
    generalize upd H q (.lst []) = G1 at f1 b1 e1 ⊢
    have c5 : ((5 : Int)).natAbs < 2 ^ 8000 := b8000 (n := 10) (by decide) (by decide)
    have c4 : ((4 : Int)).natAbs < 2 ^ 8000 := b8000 (n := 10) (by decide) (by decide)
    have c8 : ((8 : Int)).natAbs < 2 ^ 8000 := b8000 (n := 10) (by decide) (by decide)
    have la : ("abxyz" : Str).cps.toList.length = 5 := by decide +kernel
    have lx : ("xytXYWaZ" : Str).cps.toList.length = 8 := by decide +kernel
    have und : ("_" : Str).length = 1 ∧ PyData.strOk ("_" : Str) = true := by decide +kernel
    refine ⟨_, rfl, p, l, 5, rfl, f1, c5, fun z G2 z0 z1 f2 b2' => ?_⟩
    have b2 := b1.trans b2'
    have e2 := b2' _ _ qp e1
    refine ⟨_, _, rfl, rfl, _, rfl, by omega, by omega, for_range (lo := 0) (n := (2 + z).toNat) (fun (i : Nat) (σ : L2.St) (G : Hp) => ∃ u2 u3 u4 u5 : Option V, σ = [some (.ref p), some (.ref q), u2, u3, u4, u5] ∧ TapeL G p l ∧ But p H G ∧ ∃ ns : List Str, G q = some (.lst (ns.map V.str)) ∧ ns.length ≤ i ∧ (1 ≤ i → ns ≠ []) ∧ ns.Nodup ∧ ∀ x ∈ ns, NmOk x)
      ⟨none, none, none, none, rfl, f2, b2, [], e2, Nat.le_refl _, (fun h => absurd h (by decide)), .nil, fun x hx => nomatch hx⟩ (fun i σ G hi ⟨u2, u3, u4, u5, hσ, fG, bG, ns, h1, h2, h3, h4, h5⟩ => ?_) (fun σ G ⟨u2, u3, u4, u5, hσ, fG, bG, ns, h1, h2, h3, h4, h5⟩ => ?_)⟩
    · subst hσ
      -- the name
      refine ⟨_, rfl, by show 4 ≤ sizeLine; decide, fun q4 nq4 => ?_⟩
      have hq4 := but_none bG fG nq4
      have q4p := (fG.none nq4).1
      have f3 := fG.up (o := .lst [.int 1, .int 1, .int 2, .int 4]) nq4
      have b3 := bG.trans (But.new (o := .lst [.int 1, .int 1, .int 2, .int 4]) nq4)
      have e3 : upd G q4 (.lst [.int 1, .int 1, .int 2, .int 4]) q4 = some (.lst [.int 1, .int 1, .int 2, .int 4]) := upd_same
      have h1 : upd G q4 (.lst [.int 1, .int 1, .int 2, .int 4]) q = some (.lst (ns.map V.str)) := (upd_ne (ne_of_none h1 nq4)).trans h1
      generalize upd G q4 (.lst [.int 1, .int 1, .int 2, .int 4]) = G3 at f3 b3 e3 h1 ⊢
      refine ⟨_, rfl, p, l, 4, rfl, f3, c4, fun y G4 y0 y1 f4 b4' => ?_⟩
      have b4 := b3.trans b4'
      have h1 := b4' _ _ qp h1
      have e4 := b4' _ _ q4p e3
      obtain ⟨j, rfl⟩ : ∃ j : Nat, y = j := ⟨y.toNat, by omega⟩
      have hj : j < 4 := by omega
      have hv : ∃ kw : Int, ([.int 1, .int 1, .int 2, .int 4] : List V)[j]? = some (.int kw) ∧ 1 ≤ kw ∧ kw ≤ 4 := by
        match j, hj with
        | 0, _ => exact ⟨1, rfl, by decide, by decide⟩
        | 1, _ => exact ⟨1, rfl, by decide, by decide⟩
        | 2, _ => exact ⟨2, rfl, by decide, by decide⟩
        | 3, _ => exact ⟨4, rfl, by decide, by decide⟩
      obtain ⟨kw, hkw, k1, k2⟩ := hv
      refine ⟨q4, _, _, _, rfl, rfl, SqL.of e4, atI_nat hkw, p, l, kw, rfl, f4, b8000 (n := 10) (by omega) (by decide), fun x G5 x0 x1 f5 b5' => ?_⟩
      have b5 := b4.trans b5'
      have h1 := b5' _ _ qp h1
      clear e3 e4 f3 f4 b3 b4 nq4
      refine ⟨_, _, rfl, rfl, _, rfl, by omega, by omega, for_range (lo := 0) (n := (1 + x).toNat) (fun (j : Nat) (σ : L2.St) (F : Hp) => ∃ (w : Str) (u4 : Option V), σ = [some (.ref p), some (.ref q), some (.int (0 + (i : Int))), some (.str w), u4, u5] ∧ TapeL F p l ∧ But p H F ∧ F q = some (.lst (ns.map V.str)) ∧ w.length ≤ j ∧ PyData.strOk w = true)
        ⟨_, _, rfl, f5, b5, h1, Nat.le_of_eq (by decide +kernel), by decide +kernel⟩ (fun j σ F hj ⟨w, u4, hσ, fF, bF, hF, wl, wo⟩ => ?_) (fun σ F ⟨w, u4, hσ, fF, bF, hF, wl, wo⟩ => ?_)⟩
      · subst hσ
        refine ⟨_, rfl, _, rfl, p, l, 5, rfl, fF, c5, fun y2 G6 v0 v1 f6 b6' => ?_⟩
        obtain ⟨j2, rfl⟩ : ∃ j : Nat, y2 = j := ⟨y2.toNat, by omega⟩
        obtain ⟨c, hc, oc⟩ := char_at (z := "abxyz") (j := j2) (by rw [la]; omega) (by decide +kernel)
        refine ⟨_, _, c, rfl, rfl, by decide +kernel, atI_nat hc, _, _, rfl, rfl, ?_, _, _, rfl, f6, bF.trans b6', b6' _ _ qp hF, ?_, strOk_app wo oc⟩
        · show w.length + 1 ≤ _
          rw [sizeLine_eq]
          omega
        · rw [strLen_append]
          show w.length + 1 ≤ j + 1
          omega
      · subst hσ
        refine ⟨_, rfl, p, l, 8, rfl, fF, c8, fun y2 G6 v0 v1 f6 b6' => ?_⟩
        obtain ⟨j2, rfl⟩ : ∃ j : Nat, y2 = j := ⟨y2.toNat, by omega⟩
        obtain ⟨c, hc, oc⟩ := char_at (z := "xytXYWaZ") (j := j2) (by rw [lx]; omega) (by decide +kernel)
        have b6 := bF.trans b6'
        have h6 := b6' _ _ qp hF
        have nine : (⟨#[c]⟩ : Str).length = 1 := rfl
        refine ⟨_, _, c, rfl, rfl, by decide +kernel, atI_nat hc, _, _, rfl, rfl, by rw [nine, und.1]; decide, _, rfl, _, _, rfl, rfl, by rw [strLen_append, nine, und.1, sizeLine_eq]; omega, ?_⟩
        have ok : NmOk (⟨#[c]⟩ ++ "_" ++ w) := ⟨by rw [strLen_append, strLen_append, nine, und.1]; omega, strOk_app (strOk_app oc und.2) wo⟩
        generalize (⟨#[c]⟩ ++ "_" ++ w : Str) = sg at ok
        refine ⟨_, rfl, _, rfl, q, _, rfl, .inl (SqL.of h6), rfl, by rw [List.all_map]; exact List.all_eq_true.mpr fun x _ => rfl, _, rfl, ?_⟩
        rw [in_strs]
        refine ite2 (fun hn => ?_) (fun hn => ?_)
        · refine ⟨_, rfl, .inl ⟨rfl, _, SqL.of h6⟩, _, rfl, q, _, _, rfl, rfl, h6, by rw [List.length_map, sizeLine_eq]; omega, ?_⟩
          refine ⟨_, _, _, _, rfl, f6.set qp ql, b6.set nq, ns ++ [sg], ?_, by rw [List.length_append]; show ns.length + 1 ≤ i + 1; omega, fun _ => by simp, ?_, fun x hx => ?_⟩
          · rw [upd_same, List.map_append]
            rfl
          · refine List.nodup_append.mpr ⟨h4, List.nodup_cons.mpr ⟨(fun z => nomatch z), .nil⟩, fun a ha b hb e => ?_⟩
            rw [List.mem_singleton.mp hb] at e
            rw [e] at ha
            simp [ha] at hn
          · rcases List.mem_append.mp hx with hx | hx
            · exact h5 x hx
            · rw [List.mem_singleton.mp hx]; exact ok
        · refine ⟨_, _, _, _, rfl, f6, b6, ns, h6, by omega, fun _ e => ?_, h4, h5⟩
          rw [e] at hn
          simp at hn
    · subst hσ
      exact ⟨_, rfl, go q ns G fG bG nq h1 ⟨h4, h3 (by omega), by omega, h5⟩⟩
theorem ok_factor {f : Addr} {fd : FuncData} (F : Fun K "_law_factor" "_law_factor" sFactor f fd) (Z : DrawTxt P w K mg base fD dD) : FnOk P w K mg base CX0 3 f fd ["tape", "great"] spFactor := by
  refine F.ok scFactor (fun vs H Q E h => ?_) (fun cdv A outer s H vs Q E hr h => ?_)
  · obtain ⟨p, l, g, rfl, _⟩ := h
    rfl
  · obtain ⟨p, l, g, rfl, hf, g1, g2, go⟩ := h
    refine ⟨_, (pss_cons (ps_set (i := 2) scFactor.nd rfl (Or.inl rfl) (pe_op op_add pe_int (pe_call Z.d.ok (hr.mono (by decide)) rfl Z.d.g Z.d.k Z.d.b .nil pass0 (pa_cons (pv 0) (pa_cons (pe_ix ix_list (pe_lst (pa_cons pe_int (pa_cons pe_int (pa_cons (pe_op op_pow pe_int pe_int) (pa_cons (pv 1) pa_nil))))) (pe_call Z.d.ok (hr.mono (by decide)) rfl Z.d.g Z.d.k Z.d.b .nil pass0 (pa_cons (pv 0) (pa_cons pe_int pa_nil))) (fun _ _ => rfl)) pa_nil)))))
      (pss_one (ps_ret (pe_ix ix_list (pe_lst (pa_cons (pv 2) (pa_cons (pe_op op_sub pe_int (pv 2)) pa_nil))) (pe_call Z.d.ok (hr.mono (by decide)) rfl Z.d.g Z.d.k Z.d.b .nil pass0 (pa_cons (pv 0) (pa_cons pe_int pa_nil))) (fun _ _ => rfl))))), ?_⟩
    have c4 : ((4 : Int)).natAbs < 2 ^ 8000 := b8000 (n := 10) (by decide) (by decide)
    have c2 : ((2 : Int)).natAbs < 2 ^ 8000 := b8000 (n := 10) (by decide) (by decide)
    refine ⟨_, rfl, _, _, rfl, rfl, ⟨by decide, by decide, by decide⟩, _, rfl, by show 4 ≤ sizeLine; decide, fun q nq => ?_⟩
    have e6 : ((10 : Int) ^ (6 : Int).toNat) = 1000000 := by decide
    have qp := (hf.none nq).1
    have f1 := hf.up (o := .lst [.int 3, .int 12, .int (10 ^ (6 : Int).toNat), .int (g : Int)]) nq
    have b1 : But p H (upd H q (.lst [.int 3, .int 12, .int (10 ^ (6 : Int).toNat), .int (g : Int)])) := But.new nq
    have e1 : upd H q (.lst [.int 3, .int 12, .int (10 ^ (6 : Int).toNat), .int (g : Int)]) q = some (.lst [.int 3, .int 12, .int (10 ^ (6 : Int).toNat), .int (g : Int)]) := upd_same
    generalize upd H q (.lst [.int 3, .int 12, .int (10 ^ (6 : Int).toNat), .int (g : Int)]) = G1 at f1 b1 e1 ⊢
    refine ⟨_, rfl, p, l, 4, rfl, f1, c4, fun y G4 y0 y1 f4 b4' => ?_⟩
    have b4 := b1.trans b4'
    have e4 := b4' _ _ qp e1
    obtain ⟨j, rfl⟩ : ∃ j : Nat, y = j := ⟨y.toNat, by omega⟩
    have hj : j < 4 := by omega
    have hv : ∃ kw : Nat, ([.int 3, .int 12, .int (10 ^ (6 : Int).toNat), .int (g : Int)] : List V)[j]? = some (.int (kw : Int)) ∧ 1 ≤ kw ∧ kw ≤ g := by
      match j, hj with
      | 0, _ => exact ⟨3, rfl, by decide, by omega⟩
      | 1, _ => exact ⟨12, rfl, by decide, by omega⟩
      | 2, _ => exact ⟨1000000, (by rw [e6]; rfl), by decide, by omega⟩
      | 3, _ => exact ⟨g, rfl, by omega, by omega⟩
    obtain ⟨kw, hkw, k1, k2⟩ := hv
    refine ⟨q, _, _, _, rfl, rfl, SqL.of e4, atI_nat hkw, p, l, kw, rfl, f4, by rw [Int.natAbs_natCast]; omega, fun x G5 x0 x1 f5 b5' => ?_⟩
    have b5 := b4.trans b5'
    refine ⟨_, _, rfl, rfl, ?_⟩
    refine ⟨_, rfl, _, rfl, _, _, rfl, rfl, by show 2 ≤ sizeLine; decide, fun q2 nq2 => ?_⟩
    have qp2 := (f5.none nq2).1
    have f6 := f5.up (o := .lst [.int (1 + x), .int (0 - (1 + x))]) nq2
    have b6 := b5.trans (But.new (o := .lst [.int (1 + x), .int (0 - (1 + x))]) nq2)
    have e8 : upd G5 q2 (.lst [.int (1 + x), .int (0 - (1 + x))]) q2 = some (.lst [.int (1 + x), .int (0 - (1 + x))]) := upd_same
    generalize upd G5 q2 (.lst [.int (1 + x), .int (0 - (1 + x))]) = G6 at f6 b6 e8 ⊢
    refine ⟨_, rfl, p, l, 2, rfl, f6, c2, fun y G7 y0 y1 f7 b7' => ?_⟩
    have b7 := b6.trans b7'
    have e7 := b7' _ _ qp2 e8
    obtain ⟨i, rfl⟩ : ∃ j : Nat, y = j := ⟨y.toNat, by omega⟩
    have hi : i < 2 := by omega
    match i, hi with
    | 0, _ => exact ⟨q2, _, _, _, rfl, rfl, SqL.of e7, atI_nat (v := .int (1 + x)) rfl, go _ _ (by omega) (by omega) f7 b7⟩
    | 1, _ => exact ⟨q2, _, _, _, rfl, rfl, SqL.of e7, atI_nat (v := .int (0 - (1 + x))) rfl, go _ _ (by omega) (by omega) f7 b7⟩
end
end K3

set_option Elab.async false
set_option linter.all false
set_option maxRecDepth 100000
set_option maxHeartbeats 4000000
set_option autoImplicit false
/-! Tuples held still (that they bear no dict is kept), and dict(tuple of pairs). Speaks of no program. -/
namespace L2
open PySem PySem.Spec PyProof.Rows
/-- a tuple held still, without a dict of its own -/
def FrzT (H : Hp) (a : Addr) : Prop := ∃ o xs, H a = some (.frz o (.tup xs)) ∧ o.dict = none
/-- what is done with a new tuple that is held still -/
def kNewF (xs : List V) (H : Hp) (Q : VK) : Prop := ∀ (p : Addr) (o : Obj), H p = none → o.dict = none → Q (.ref p) (upd H p (.frz o (.tup xs)))
def tTupF (t : TA) : TE := fun σ H Q => t σ H fun xs H1 => xs.length ≤ sizeLine ∧ kNewF xs H1 Q
def kTupF (K : PySem.W.Frag) (x : V) (H : Hp) (Q : VK) : Prop := ∃ p xs, x = .ref p ∧ SqL K H p xs ∧ kNewF xs H Q
section
variable {X : Cx} {a : Expr} {ta : TE} {es : List Expr} {t : TA} {pos : Pos}
theorem pe_tupF {x1} (h : PA X es t) : PE X (.Tuple es x1 pos) (tTupF t) := by
  refine ⟨fun pins s σ H Q I hq => ?_⟩
  refine wpAny_Tuple_spliced (thn (h.run pos pins s σ H _ I hq) fun us s1 ⟨xs, H1, I1, r, z, q⟩ => ⟨by rw [← r.length]; exact z, ?_⟩)
  have hf : H1 s1.heap.objs.size = none := I1.hok.fresh (Nat.le_refl _)
  refine ⟨.ref s1.heap.objs.size, upd H1 s1.heap.objs.size (.frz { cls := .type "tuple", data := .seq us.toArray } (.tup xs)), I1.laid (t' := s1.toks) (fun b u e => Heap.get?_push_of_some _ e) (Nat.le_refl _) ?_, rfl, q _ _ hf rfl⟩
  exact ⟨Heap.get?_push_size _ rfl, z, us, r, ⟨_, Heap.get?_push_size _ rfl, rfl, _, rfl⟩⟩
theorem rl_tupleF (pins : List (Addr × Obj)) (s : Shared) (σ : St) (H : Hp) (x : V) (v : Value) (Q : VK) (I : Inv X pins σ H s) (r : RelV x v) (h : kTupF X.K x H Q) :
    wpAny (model X.prog X.w) X.A (call (.type "tuple") [v]) (EP X pins σ Q) X.xe s := by
  obtain ⟨p, xs, rfl, hs, q⟩ := h
  obtain rfl : v = .ref p := r
  obtain ⟨its, rv, pl, hz⟩ := I.list hs
  refine call_tuple_list pl.isList (fun h' hk => ?_) (by rw [List.size_toArray, ← rv.length]; exact hz)
  have I1 : Inv X pins σ H { s with heap := h' } := I.kept (t' := s.toks) hk
  have I2 : Inv X pins σ (upd H h'.objs.size (.frz { cls := .type "tuple", data := .seq its.toArray } (.tup xs))) { s with heap := h'.push { cls := .type "tuple", data := .seq its.toArray } } :=
    I1.laid (t' := s.toks) (fun b o e => Heap.get?_push_of_some _ e) (Nat.le_refl _) ⟨Heap.get?_push_size _ rfl, hz, its, rv, IsTup.new _ _⟩
  exact ⟨.ref h'.objs.size, _, I2, rfl, q _ _ (I1.hok.fresh (Nat.le_refl _)) rfl⟩
theorem pe_tupleF {p : Pos} (hg : Gl X "tuple") (hm : X.mg "tuple" = none) (ha : PE X a ta) (na : starEach [a] X.env = (false, eval a X.env) :: starEach [] X.env := by rfl) :
    PE X (.Call (.Name "tuple" p) [a] [] pos) (tThen ta (kTupF X.K)) := by
  refine ⟨fun pins s σ H Q I h => ?_⟩
  exact Call_ (ld_blt I hg hm boot_tuple (PyProof.Rows.callWith_type1 (one_arg ha I h (fun v s2 x H2 I2 r q => rl_tupleF pins s2 σ H2 x v Q I2 r q) na) na))
end
end L2

set_option Elab.async false
set_option linter.all false
set_option maxRecDepth 100000
set_option maxHeartbeats 4000000
set_option autoImplicit false
set_option pp.maxSteps 600
/-! dict(t): t a tuple of pairs (text, int), held still. Speaks of no program. -/
namespace K5
open PySem PySem.Spec PyProof.Rows L2 K1D K2P
def facD (m : List (Str × Int)) : List (Key × V) := m.map fun x => (Sum.inr x.1, V.int x.2)
section
variable {X : Cx} {pins : List (Addr × Obj)} {σ : L2.St} {H : Hp} {s : Shared} {b : Bool}
theorem pairAt_of (I : Inv X pins σ H s) {t : Addr} {x : Str} {e : Int} (h : SqB b X.K H t [.str x, .int e]) : ∃ k v, PairAt s.heap t k v ∧ keyIs (Sum.inr x) k = true ∧ RelV (.int e) v := by
  cases b
  · obtain ⟨its, rv, pl, _⟩ := I.tuple h
    cases rv with
    | cons r1 r2 =>
      cases r2 with
      | cons r2 r3 =>
        cases r3
        refine ⟨_, _, .inl pl, ?_, r2⟩
        obtain ⟨tk, rfl⟩ := r1
        exact decide_eq_true rfl
  · obtain ⟨its, rv, pl, _⟩ := I.list h
    cases rv with
    | cons r1 r2 =>
      cases r2 with
      | cons r2 r3 =>
        cases r3
        refine ⟨_, _, .inr pl.isList, ?_, r2⟩
        obtain ⟨tk, rfl⟩ := r1
        exact decide_eq_true rfl
theorem pairs_ofD (I : Inv X pins σ H s) : ∀ {m : List (Str × Int)} {xs : List V} {its : List Value}, Vals xs its → xs.length = m.length → (∀ (i : Nat) (f : Fac) (v : V), m[i]? = some f → xs[i]? = some v → FacB b X.K H f v) →
    ∃ (Tl : List Addr) (ps : List (Value × Value)) (kvs : List (Key × Value)), its = Tl.map Value.ref ∧ ps.length = m.length ∧ Tl.length = m.length ∧ KV (facD m) kvs ∧ ∀ (j : Nat) (k v : Value), ps[j]? = some (k, v) → ∃ (T : Addr) (kk : Key), Tl[j]? = some T ∧ PairAt s.heap T k v ∧ kvs[j]? = some (kk, v) ∧ keyIs kk k = true
  | [], _, _, r, l, _ => by
    cases r with
    | nil => exact ⟨[], [], [], rfl, rfl, rfl, .nil, fun j k v e => by simp at e⟩
    | cons _ _ => cases l
  | f :: m, _, _, r, l, h => by
    cases r with
    | nil => cases l
    | @cons x u xs us r1 r2 =>
      obtain ⟨t, rfl, ht⟩ := h 0 f x rfl rfl
      obtain rfl : u = .ref t := r1
      obtain ⟨k, v, hp, hk, hv⟩ := pairAt_of I ht
      obtain ⟨Tl, ps, kvs, e1, e2, e3, e4, e5⟩ := pairs_ofD I (m := m) r2 (by simpa using l) fun i f v a c => h (i + 1) f v a c
      refine ⟨t :: Tl, (k, v) :: ps, (Sum.inr f.1, v) :: kvs, by rw [e1]; rfl, by rw [List.length_cons, List.length_cons, e2], by rw [List.length_cons, List.length_cons, e3], .cons ⟨rfl, hv⟩ e4, fun j k' v' e => ?_⟩
      cases j with
      | zero =>
        cases e
        exact ⟨t, _, rfl, hp, rfl, hk⟩
      | succ j => exact e5 j k' v' e
/-- dict(t) -/
theorem call_dictP (hc : X.calm = true) : CallR X (.type "dict") (fun xs H Q => ∃ (a : Addr) (o : Obj) (vs : List V) (m : List (Str × Int)), xs = [.ref a] ∧ H a = some (.frz o (.tup vs)) ∧ o.dict = none ∧ AllV (FacB b X.K H) m vs ∧ (m.map (·.1)).Nodup ∧
    ∀ p, H p = none → Q (.ref p) (upd H p (.dK (facD m)))) := by
  intro pins s σ H xs us Q I r q
  obtain ⟨a, o, vs, m, ex, ha, od, ⟨lv, av⟩, nd, q⟩ := q
  subst ex
  obtain ⟨u, eu, rx⟩ := vals1 r
  subst eu
  cases rx
  obtain ⟨g, z, its, rv, o', ho', hcl, n, hdat⟩ := I.hok a _ ha
  rw [g] at ho'
  cases ho'
  obtain ⟨Tl, ps, kvs, e1, e2, e3, e4, e5⟩ := pairs_ofD I rv lv av
  have lk : (facD m).length = kvs.length := Paired.length e4
  have lm : (facD m).length = m.length := List.length_map ..
  have pi : PairItems s.heap its.toArray (fun j => (Tl[j]?).getD 0) ps := by
    refine ⟨by rw [List.size_toArray, e1, List.length_map, e2, e3], fun j k v hj => ?_⟩
    obtain ⟨T, kk, h1, h2, _⟩ := e5 j k v hj
    refine ⟨?_, by show PairAt s.heap ((Tl[j]?).getD 0) k v; rw [h1]; exact h2⟩
    rw [e1, List.getElem?_toArray, List.getElem?_map]
    show Option.map Value.ref Tl[j]? = some (Value.ref ((Tl[j]?).getD 0))
    rw [h1]
    rfl
  refine call_dict_pairs (knd := mixKind X.prog X.w) (kvs := kvs) (PairArg.tuple a its.toArray (fun j => (Tl[j]?).getD 0) ps) (I.ok.hd hc) ⟨⟨o, n, g, hcl, od, hdat⟩, pi⟩ ⟨by omega, fun i key v e => ?_⟩ (by omega) fun h' tk hd hk => ?_
  · obtain ⟨T, kk, _, _, h3, h4⟩ := e5 i key v e
    exact ⟨kk, h3, h4⟩
  · have nk : (kvs.map (·.1)).Nodup := by
      rw [← KV.keys e4]
      unfold facD
      rw [List.map_map, show ((fun x : Key × V => x.1) ∘ fun x : Str × Int => ((Sum.inr x.1 : Key), V.int x.2)) = fun x => Sum.inr x.1 from rfl]
      rw [show (fun x : Str × Int => (Sum.inr x.1 : Key)) = Sum.inr ∘ (·.1) from rfl, ← List.map_map]
      exact List.Pairwise.map _ (fun a b h e => h (Sum.inr.inj e)) nd
    rw [merged_nil_of_nodup kvs nk] at hd
    have hm : (s.heap.objs.size == sysModules) = false := beq_eq_false_iff_ne.mpr (Nat.ne_of_gt I.big)
    exact ⟨.ref s.heap.objs.size, upd H s.heap.objs.size (.dK (facD m)), I.laid (t' := tk) (fun b u e => hk b u (fun z => nomatch z) e) (Nat.le_refl _)
      (show ObjOk X.prog X.w _ _ _ (.dK (facD m)) from ⟨by rw [lm, ← lv]; exact z, hm, kvs, e4, hd⟩), rfl, q _ (I.hok.fresh (Nat.le_refl _))⟩
end
end K5

set_option Elab.async false
set_option linter.all false
set_option maxRecDepth 100000
set_option maxHeartbeats 8000000
set_option autoImplicit false
set_option pp.maxSteps 600
/-! The law's tables. -/
namespace K3
open PySem L2 K1D K2P
abbrev sTable : Stmt := K2P.top 38
/-- a tuple held still stays -/
theorem FrzT.up {K : PySem.W.Frag} {H G : Hp} {a : Addr} (h : FrzT H a) (t : Tups K H G) : FrzT G a := by
  obtain ⟨o, xs, e, d⟩ := h
  exact ⟨o, xs, t.f _ _ _ e, d⟩
/-- keys that stand, all held still -/
def KeysF (K : PySem.W.Frag) (H : Hp) (kvs : List NE) : Prop := KeysN K H kvs ∧ ∀ x ∈ kvs, FrzT H x.2.1
theorem KeysF.up {K : PySem.W.Frag} {H G : Hp} {kvs : List NE} (h : KeysF K H kvs) (t : Tups K H G) : KeysF K G kvs := ⟨h.1.up t, fun x hx => FrzT.up (h.2 x hx) t⟩
theorem KeysF.put {K : PySem.W.Frag} {H : Hp} {kvs : List NE} {k : NestedKey} {b : Addr} {v : V} (h : KeysF K H kvs) (hk : KeyV K H k (.ref b)) (hd : k.depth ≤ 8) (hf : FrzT H b) : KeysF K H (putN kvs k b v) := ⟨h.1.put hk hd, fun x hx => by
  unfold putN at hx
  split at hx
  · obtain ⟨y, hy, e⟩ := List.mem_map.mp hx
    split at e
    · subst e; exact h.2 y hy
    · subst e; exact h.2 y hy
  · rcases List.mem_append.mp hx with hx | hx
    · exact h.2 x hx
    · rw [List.mem_singleton] at hx
      subst hx
      exact hf⟩
/-- a table whose keys are held still -/
def DictF (K : PySem.W.Frag) (w : World) (H : Hp) (d : Addr) (T : Poly) : Prop := ∃ kvs : List NE, H d = some (dN w d kvs) ∧ KeysF K H kvs ∧ IntsN kvs (niT T) ∧ (keysI (niT T)).Nodup
theorem DictF.up {K : PySem.W.Frag} {w : World} {H G : Hp} {d : Addr} {T : Poly} (h : DictF K w H d T) (e : ∀ a o, H a = some o → G a = some o) : DictF K w G d T :=
  let ⟨kvs, h1, h2, h3⟩ := h; ⟨kvs, e _ _ h1, h2.up (Tups.ext e), h3⟩
theorem DictF.nd {K : PySem.W.Frag} {w : World} {H : Hp} {d : Addr} {T : Poly} (h : DictF K w H d T) : (T.map (·.1)).Nodup := by
  obtain ⟨kvs, h1, h2, h3, h4⟩ := h
  exact nodup_ni.mp h4
def spTable (K : PySem.W.Frag) (w : World) : Sp := fun vs H Q _ => ∃ (p l la : Addr) (ns : List Str) (t h g : Nat), vs = [.ref p, .ref la, .int t, .int h, .int g] ∧ TapeL H p l ∧ H la = some (.lst (ns.map V.str)) ∧ Sg ns ∧ t ≤ 100 ∧ h ≤ 100 ∧ 1000000 ≤ g ∧ g < 2 ^ 8000 ∧
  ∀ (d : Addr) (T : Poly) (G : Hp), TapeL G p l → But p H G → H d = none → DictF K w G d T → TabM ns h g t T → Q (.ref d) G
theorem TapeL.lst {H : Hp} {p l q : Addr} {xs : List V} (f : TapeL H p l) (h : H q = some (.lst xs)) : q ≠ p := fun z => by
  obtain ⟨ns, a, v, d, m, s, h1, _⟩ := f
  rw [z, h1] at h
  cases h
theorem TapeL.tups {K : PySem.W.Frag} {H G : Hp} {p l : Addr} (f : TapeL H p l) (b : But p H G) : Tups K H G := by
  obtain ⟨kvs, hp⟩ := f.at
  exact ⟨fun a xs e => b a _ (fun z => by rw [z, hp] at e; cases e) e, fun a o xs e => b a _ (fun z => by rw [z, hp] at e; cases e) e⟩
theorem TapeL.dict {K : PySem.W.Frag} {w : World} {H G : Hp} {p l d : Addr} {T : Poly} (f : TapeL H p l) (b : But p H G) (x : DictF K w H d T) : DictF K w G d T := by
  obtain ⟨kvs, h1, h2, h3⟩ := x
  obtain ⟨kv, hp⟩ := f.at
  exact ⟨kvs, b d _ (fun z => by rw [z, hp] at h1; unfold dN at h1; cases h1) h1, h2.up (f.tups b), h3⟩
theorem TapeL.setD {w : World} {H : Hp} {p l d : Addr} {o : HO} {kvs : List NE} (f : TapeL H p l) (h : H d = some (dN w d kvs)) : TapeL (upd H d o) p l := by
  obtain ⟨ns, a, v, dd, m, s, h1, h2, h3⟩ := f
  refine TapeL.set ⟨ns, a, v, dd, m, s, h1, h2, h3⟩ (fun z => ?_) fun z => ?_
  · rw [z, h1] at h; unfold dN at h; cases h
  · rw [z, h2] at h; unfold dN at h; cases h
/-- exponents as they are drawn: h in all, f left -/
structure ExpD (ns : List Str) (h f : Int) (X : KS) : Prop where
  nd : (X.map (·.1)).Nodup
  mem : ∀ x ∈ X, x.1 ∈ ns
  ge : ∀ x ∈ X, 1 ≤ x.2
  le : ∀ x ∈ X, x.2 + f ≤ h
theorem ExpD.nil {ns : List Str} {h : Int} : ExpD ns h h [] := ⟨.nil, (fun x hx => nomatch hx), (fun x hx => nomatch hx), fun x hx => nomatch hx⟩
theorem ExpD.put {ns : List Str} {h f m : Int} {X : KS} {x : Str} (e : ExpD ns h f X) (hx : x ∈ ns) (m1 : 1 ≤ m) (mf : m ≤ f) (fh : f ≤ h) : ExpD ns h (f - m) (putT X x (getT X x + m)) := by
  have old : ∀ y ∈ X, y.1 = x → getT X x = y.2 := fun y hy e2 => by
    unfold getT
    rw [(valT_mem e.nd).mpr (show (x, y.2) ∈ X by rw [← e2]; exact hy)]
    rfl
  have g0 : getT X x = 0 ∨ (1 ≤ getT X x ∧ getT X x + f ≤ h) := by
    by_cases q : x ∈ X.map (·.1)
    · obtain ⟨y, hy, e2⟩ := List.mem_map.mp q
      rw [old y hy e2]
      exact .inr ⟨e.ge y hy, e.le y hy⟩
    · left
      unfold getT
      rw [valT_none.mpr q]
      rfl
  have mp : ∀ y ∈ putT X x (getT X x + m), y ∈ X ∨ (y.1 = x ∧ y.2 = getT X x + m) := fun y hy => by
    unfold putT at hy
    split at hy
    · obtain ⟨z, hz, ez⟩ := List.mem_map.mp hy
      split at ez
      · rename_i q
        rw [← ez]
        exact .inr ⟨q, rfl⟩
      · rw [← ez]
        exact .inl hz
    · rcases List.mem_append.mp hy with hy | hy
      · exact .inl hy
      · rw [List.mem_singleton.mp hy]
        exact .inr ⟨rfl, rfl⟩
  refine ⟨nodup_putT e.nd _ _, fun y hy => ?_, fun y hy => ?_, fun y hy => ?_⟩
  · rcases mp y hy with q | q
    · exact e.mem y q
    · rw [q.1]; exact hx
  · rcases mp y hy with q | q
    · exact e.ge y q
    · rw [q.2]; omega
  · rcases mp y hy with q | q
    · have := e.le y q
      omega
    · rw [q.2]; omega
/-- the monomial of these names -/
def monX (X : KS) (ys : List Str) : Mon := ys.map fun x => (x, getT X x)
theorem monX_ok {ns : List Str} {h f : Int} {X : KS} {ys : List Str} (e : ExpD ns h f X) (f0 : 0 ≤ f) (pm : ys.Perm (X.map (·.1))) (up : UpS ys) : MonOk (monX X ys) ∧ ∀ x ∈ monX X ys, x.1 ∈ ns ∧ x.2 ≤ h := by
  have at_ : ∀ x ∈ monX X ys, x ∈ X := fun x hx => by
    obtain ⟨y, hy, rfl⟩ := List.mem_map.mp hx
    obtain ⟨z, hz, e2⟩ := List.mem_map.mp (pm.mem_iff.mp hy)
    have : getT X y = z.2 := by
      unfold getT
      rw [(valT_mem e.nd).mpr (show (y, z.2) ∈ X by rw [← e2]; exact hz)]
      rfl
    show (y, getT X y) ∈ X
    rw [this, ← e2]
    exact hz
  refine ⟨⟨?_, fun x hx => e.ge x (at_ x hx)⟩, fun x hx => ⟨e.mem x (at_ x hx), by have := e.le x (at_ x hx); omega⟩⟩
  unfold monX
  rw [List.pairwise_map]
  exact up
structure TableTxt (P : Program) (w : World) (K : PySem.W.Frag) (mg : Str → Option Value) (base : Heap) (fD : Addr) (dD : FuncData) : Prop extends DrawTxt P w K mg base fD dD
section
variable {P : Program} {w : World} {K : PySem.W.Frag} {mg : Str → Option Value} {base : Heap} {fD fF : Addr} {dD dF : FuncData}
theorem scTable : FnScope ["tape", "signs", "terms", "height", "great", "table", "k", "exponents", "left", "turn", "more", "sign", "monomial"] ["tape", "signs", "terms", "height", "great"] (defScope sTable) := ⟨rfl, rfl, rfl, by decide +kernel, rfl, by decide +kernel, by decide +kernel⟩
theorem dict_put {G : Hp} {D b : Addr} {t : List NI} {k : NestedKey} (c : Int) {os : List NE} (h1 : G D = some (dN w D os)) (h2 : KeysN K G os) (h3 : IntsN os t) (nd : (keysI t).Nodup) (key : KeyV K G k (.ref b)) (dk : k.depth ≤ 8) :
    DictI K w (upd G D (dN w D (putN os k b (.int c)))) D (putI t k c) := ⟨_, upd_same, (h2.put key dk).up (Tups.put (not_tup_dN h1)), ints_put h3 k b c, nodup_put nd k c⟩
theorem dict_putF {G : Hp} {D b : Addr} {t : List NI} {k : NestedKey} (c : Int) {os : List NE} (h1 : G D = some (dN w D os)) (h2 : KeysF K G os) (h3 : IntsN os t) (nd : (keysI t).Nodup) (key : KeyV K G k (.ref b)) (dk : k.depth ≤ 8) (fb : FrzT G b) :
    ∃ kvs, upd G D (dN w D (putN os k b (.int c))) D = some (dN w D kvs) ∧ KeysF K (upd G D (dN w D (putN os k b (.int c)))) kvs ∧ IntsN kvs (putI t k c) ∧ (keysI (putI t k c)).Nodup := ⟨_, upd_same, (h2.put key dk fb).up (Tups.put (not_tup_dN h1)), ints_put h3 k b c, nodup_put nd k c⟩
theorem kv_strs (D : KS) : (mpT eS D).map (fun kv => kV kv.1) = (D.map (·.1)).map V.str := by
  unfold mpT eS
  rw [List.map_map, List.map_map]
  rfl
theorem ok_table {f : Addr} {fd : FuncData} (F : Fun K "_law_table" "_law_table" sTable f fd) (Z : DrawTxt P w K mg base fD dD) (W : CallT P w K mg base CX0 3 "_law_factor" ["tape", "great"] spFactor fF dF) : FnOk P w K mg base CX0 4 f fd ["tape", "signs", "terms", "height", "great"] (spTable K w) := by
  refine F.ok scTable (fun vs H Q E h => ?_) (fun cdv A outer s H vs Q E hr h => ?_)
  · obtain ⟨p, l, la, ns, t, h, g, rfl, _⟩ := h
    rfl
  · obtain ⟨p, l, la, ns, t, h, g, rfl, hf, hla, sg, t100, h100, g1, g2, go⟩ := h
    refine ⟨_, (pss_cons (ps_set (i := 5) scTable.nd rfl (Or.inl rfl) pe_nnew)
      (pss_cons (ps_for PassesOwn.never rfl (pi_range1 (by rfl) Z.range (pa_cons (pe_call Z.d.ok (hr.mono (by decide)) rfl Z.d.g Z.d.k Z.d.b .nil pass0 (pa_cons (pv 0) (pa_cons (pe_op op_add (pv 2) pe_int) pa_nil))) pa_nil)) (pg_name (i := 6) scTable.nd rfl (Or.inl rfl)) (pss_cons (ps_set (i := 7) scTable.nd rfl (Or.inr rfl) pe_dnewK)
      (pss_cons (ps_set (i := 8) scTable.nd rfl (Or.inl rfl) (pv 3))
      (pss_cons (ps_for PassesOwn.never rfl (pi_range1 (by rfl) Z.range (pa_cons (pe_call Z.d.ok (hr.mono (by decide)) rfl Z.d.g Z.d.k Z.d.b .nil pass0 (pa_cons (pv 0) (pa_cons pe_int pa_nil))) pa_nil)) (pg_name (i := 9) scTable.nd rfl (Or.inl rfl)) (pss_cons (ps_set (i := 10) scTable.nd rfl (Or.inl rfl) (pe_op op_add pe_int (pe_call Z.d.ok (hr.mono (by decide)) rfl Z.d.g Z.d.k Z.d.b .nil pass0 (pa_cons (pv 0) (pa_cons pe_int pa_nil)))))
      (pss_one (ps_if (pt_cmpR op_le (pv 10) (pv 8) (nomark _)) (pss_cons (ps_set (i := 11) scTable.nd rfl (Or.inl rfl) (pe_ix ix_list (pv 1) (pe_call Z.d.ok (hr.mono (by decide)) rfl Z.d.g Z.d.k Z.d.b .nil pass0 (pa_cons (pv 0) (pa_cons (pe_callB call_len_seq (by rfl) Z.len PySem.boot_len (pa_cons (pv 1) pa_nil)) pa_nil))) (fun _ _ => rfl)))
      (pss_cons (ps_dput (hu_of hr) (pv 7) (pv 11) (pe_op op_add (pe_dget2 (hu_of hr) (pv 7) (pv 11) pe_int ⟨rfl, rfl, rfl, rfl⟩) (pv 10)) rfl)
      (pss_one (ps_set (i := 8) scTable.nd rfl (Or.inl rfl) (pe_op op_sub (pv 8) (pv 10)))))) pss_nil))))
      (pss_cons (ps_set (i := 12) scTable.nd rfl (Or.inl rfl) (pe_tupleF (by rfl) Z.tuple (pe_lc (own := [("sign", 11)]) (g := (gName 11)) (tt := tYes) (te := (tTup (tCons (tVar 11) (tCons (tDGet (tVar 7) (tVar 11)) tNil)))) rfl scTable.nd (pi_list (pe_callB cr_sortedS (by rfl) Z.sorted (by decide +kernel) (pa_cons (pe_callTy (call_list_dK rfl) (by rfl) Z.list (by decide +kernel) (pa_cons (pv 7) pa_nil)) pa_nil))) (blkOk_by (own := [("sign", 11)]) (N := ["tape", "signs", "terms", "height", "great", "table", "k", "exponents", "left", "turn", "more", "sign", "monomial"]) (sc := defScope sTable) (by decide +kernel)) (fun _ _ _ _ _ => (pg_name (i := 11) scTable.nd rfl (Or.inl rfl))) (fun _ _ _ _ _ => pts_nil) (fun _ _ _ _ _ => (pe_tup (pa_cons (pv 11) (pa_cons (pe_dget (hu_of hr) (pv 7) (pv 11) (fun _ _ => rfl)) pa_nil)))))))
      (pss_one (ps_nput (K1P.hu9 hr) (pv 5) (pv 12) (pe_call W.ok (hr.mono (by decide)) rfl W.g W.k W.b .nil pass0 (pa_cons (pv 0) (pa_cons (pv 4) pa_nil))) rfl)))))))
      (pss_one (ps_ret (pv 5))))), ?_⟩
    have lap := hf.lst hla
    have c4 : ((4 : Int)).natAbs < 2 ^ 8000 := b8000 (n := 10) (by decide) (by decide)
    have c3 : ((3 : Int)).natAbs < 2 ^ 8000 := b8000 (n := 10) (by decide) (by decide)
    refine fun D nD => ?_
    have s0 : Same H (upd H D (dN w D [])) := fun b o q => (upd_ne (ne_of_none q nD)).trans q
    have f0 := hf.up (o := dN w D []) nD
    have d0 : DictF K w (upd H D (dN w D [])) D [] := ⟨[], upd_same, ⟨fun x hx => (by cases hx), fun x hx => (by cases hx)⟩, rfl, List.nodup_nil⟩
    have b0 : But p H (upd H D (dN w D [])) := But.new nD
    have Dp := (hf.none nD).1
    refine ⟨_, rfl, _, rfl, _, _, rfl, rfl, p, l, _, rfl, f0, b8000 (n := 10) (by omega) (by decide), fun z G2 z0 z1 f2 b2' => ?_⟩
    have d2 := f0.dict b2' d0
    have b2 := b0.trans b2'
    refine ⟨_, rfl, by omega, by omega, for_range (lo := 0) (n := z.toNat) (fun (i : Nat) (σ : L2.St) (G : Hp) => ∃ u6 u7 u8 u9 u10 u11 u12 : Option V, σ = [some (.ref p), some (.ref la), some (.int (t : Int)), some (.int (h : Int)), some (.int (g : Int)), some (.ref D), u6, u7, u8, u9, u10, u11, u12] ∧ TapeL G p l ∧ But p H G ∧ ∃ T : Poly, DictF K w G D T ∧ TabM ns h g i T)
      ⟨_, _, _, _, _, _, _, rfl, f2, b2, [], d2, .nil⟩ (fun i σ G hi ⟨u6, u7, u8, u9, u10, u11, u12, hσ, fG, bG, T, dT, tT⟩ => ?_) (fun σ G ⟨u6, u7, u8, u9, u10, u11, u12, hσ, fG, bG, T, dT, tT⟩ => ?_)⟩
    · subst hσ
      intro e ne
      have He := but_none bG fG ne
      obtain ⟨ep, el⟩ := fG.none ne
      have f3 := fG.up (o := .dK []) ne
      have b3 := bG.trans (But.new (o := .dK []) ne)
      have dT3 : DictF K w (upd G e (.dK [])) D T := DictF.up dT (same_new ne)
      have e3 : upd G e (.dK []) e = some (.dK (mpT eS ([] : KS))) := upd_same
      have eD : e ≠ D := fun z => by
        obtain ⟨kvs, q, _⟩ := dT
        rw [z, q] at ne
        cases ne
      generalize upd G e (.dK []) = G3 at f3 b3 dT3 e3 ⊢
      refine ⟨_, rfl, ?_⟩
      refine ⟨_, rfl, p, l, 4, rfl, f3, c4, fun y G4 y0 y1 f4 b4' => ?_⟩
      have b4 := b3.trans b4'
      have e4 := b4' _ _ ep e3
      have dT4 := f3.dict b4' dT3
      refine ⟨_, rfl, by omega, by omega, for_range (lo := 0) (n := y.toNat) (fun (j : Nat) (σ : L2.St) (F : Hp) => ∃ (lf : Int) (X : KS) (u9 u10 u11 : Option V), σ = [some (.ref p), some (.ref la), some (.int (t : Int)), some (.int (h : Int)), some (.int (g : Int)), some (.ref D), some (.int (0 + (i : Int))), some (.ref e), some (.int lf), u9, u10, u11, u12] ∧ TapeL F p l ∧ But p H F ∧ DictF K w F D T ∧ F e = some (.dK (mpT eS X)) ∧ ExpD ns h lf X ∧ 0 ≤ lf ∧ lf ≤ h ∧ X.length ≤ j)
        ⟨_, [], _, _, _, rfl, f4, b4, dT4, e4, .nil, by omega, by omega, Nat.le_refl _⟩ (fun j σ F hj ⟨lf, X, u9, u10, u11, hσ, fF, bF, dF', eF, ed, l0, lh, Xl⟩ => ?_) (fun σ F ⟨lf, X, u9, u10, u11, hσ, fF, bF, dF', eF, ed, l0, lh, Xl⟩ => ?_)⟩
      · subst hσ
        refine ⟨_, rfl, p, l, 3, rfl, fF, c3, fun m G5 m0 m1 f5 b5' => ?_⟩
        have b5 := bF.trans b5'
        have e5 := b5' _ _ ep eF
        have dT5 := fF.dict b5' dF'
        refine ⟨_, _, rfl, rfl, _, rfl, _, rfl, _, _, rfl, rfl, _, rfl, ?_⟩
        refine ite2 (fun hc => ?_) (fun _ => ⟨_, X, _, _, _, rfl, f5, b5, dT5, e5, ed, l0, lh, by omega⟩)
        have mle : 1 + m ≤ lf := of_decide_eq_true hc
        have h5 : G5 la = some (.lst (ns.map V.str)) := b5 _ _ lap hla
        have ln : 0 < ns.length := List.length_pos_iff.mpr sg.ne
        have l6 := sg.l6
        refine ⟨_, rfl, _, rfl, _, rfl, la, _, rfl, .inl (SqL.of h5), p, l, _, rfl, f5, ?_, fun k G6 k0 k1 f6 b6' => ?_⟩
        · rw [List.length_map]
          exact b8000 (n := 10) (by omega) (by decide)
        rw [List.length_map] at k1
        obtain ⟨k, rfl⟩ : ∃ j : Nat, k = j := ⟨k.toNat, by omega⟩
        have kl : k < ns.length := by omega
        have hv : (ns.map V.str)[k]? = some (.str ns[k]) := by simp [kl]
        have b6 := b5.trans b6'
        have e6 := b6' _ _ ep e5
        have h6 := b6' _ _ lap h5
        have dT6 := f5.dict b6' dT5
        refine ⟨la, _, _, _, rfl, rfl, SqL.of h6, atI_nat hv, ?_⟩
        have gd := DGet.k (k := eS ns[k]) e6
        refine ⟨_, rfl, e, rfl, .inl ⟨_, .inl e6⟩, _, rfl, _, gd, ?_⟩
        rw [getD_mpT eS_inj]
        refine ⟨_, rfl, _, _, rfl, rfl, _, rfl, _, rfl, e, _, rfl, DPut.k (k := eS ns[k]) e6 (by rw [len_mpT, sizeLine_eq]; omega), ?_⟩
        rw [putK_mpT eS_inj]
        have f7 : TapeL (upd G6 e (.dK (mpT eS (putT X ns[k] (getT X ns[k] + (1 + m)))))) p l := f6.set ep fun z => by
          obtain ⟨_, _, _, _, _, _, _, q, _⟩ := f6
          rw [z, q] at e6
          cases e6
        have dT7 : DictF K w (upd G6 e (.dK (mpT eS (putT X ns[k] (getT X ns[k] + (1 + m)))))) D T := by
          obtain ⟨kvs, q1, q2, q3⟩ := dT6
          exact ⟨kvs, (upd_ne (Ne.symm eD)).trans q1, q2.up (Tups.put fun xs z => by
            rcases z with z | ⟨o, z⟩
            · rw [e6] at z; cases z
            · rw [e6] at z; cases z), q3⟩
        refine ⟨_, rfl, _, rfl, _, _, rfl, rfl, _, _, _, _, _, rfl, f7, b6.set He, dT7, upd_same, ed.put (List.getElem_mem kl) (by omega) mle lh, by omega, by omega, ?_⟩
        have := len_putT X ns[k] (getT X ns[k] + (1 + m))
        omega
      · subst hσ
        refine ⟨_, rfl, e, _, rfl, eF, fun q nq => ?_⟩
        rw [kv_strs]
        have s1 : Same F (upd F q (.lst ((X.map (·.1)).map V.str))) := same_new nq
        refine ⟨q, _, rfl, SqL.of upd_same, by rw [List.length_map]; omega, fun ys r pm so nr => ?_⟩
        have s2 := s1.trans (same_new (o := .lst (ys.map V.str)) nr)
        have hr2 : upd (upd F q (.lst ((X.map (·.1)).map V.str))) r (.lst (ys.map V.str)) r = some (.lst (ys.map V.str)) := upd_same
        generalize upd (upd F q (.lst ((X.map (·.1)).map V.str))) r (.lst (ys.map V.str)) = F2 at s2 hr2 ⊢
        have yl : ys.length = X.length := by rw [pm.length_eq, List.length_map]
        have up := up_sorted so (pm.nodup_iff.mpr ed.nd)
        refine ⟨r, rfl, ⟨_, SqL.of hr2⟩, fun L nL => ?_⟩
        refine lc_list (K := K) (a := r) (xs := ys.map V.str) (fun (j : Nat) (G : Hp) => Same F2 G ∧ ∃ zs : List V, G L = some (.lst zs) ∧ KeyVs K G ((monX X (ys.take j)).map K2P.facK) zs) ⟨same_new nL, [], upd_same, .nil⟩
          (fun j G _ ⟨sg', _⟩ => SqL.of (sg' _ _ hr2)) (fun j v G hv ⟨sg', zs, q1, q2⟩ => ?_) (fun G ⟨sg', zs, q1, q2⟩ => ?_)
        · rw [List.getElem?_map] at hv
          obtain ⟨x, hx, rfl⟩ := Option.map_eq_some_iff.mp hv
          have gd := DGet.k (k := eS x) (sg' _ _ (s2 _ _ eF))
          have ex : valV (mpT eS X) (eS x) = some (.int (getT X x)) := by
            rw [valV_mpT eS_inj]
            have : x ∈ X.map (·.1) := pm.mem_iff.mp (List.mem_of_getElem? hx)
            unfold getT
            cases q : valT X x with
            | none => exact absurd this (valT_none.mp q)
            | some c => rfl
          rw [ex] at gd
          refine ⟨rfl, _, rfl, _, rfl, _, rfl, e, _, rfl, gd, by show 2 ≤ sizeLine; decide, fun a na => ?_⟩
          have g1' : upd G a (.tup [.str x, .int (getT X x)]) L = some (.lst zs) := (upd_ne (ne_of_none q1 na)).trans q1
          have s3 : Same G (upd G a (.tup [.str x, .int (getT X x)])) := same_new na
          have ka : KeyV K (upd G a (.tup [.str x, .int (getT X x)])) (K2P.facK (x, getT X x)) (.ref a) := .tup upd_same (.cons (.str x) (.cons (.int _) .nil))
          have zl : zs.length < sizeLine := by
            have q3 := K1P.keyVs_len q2
            unfold monX at q3
            rw [List.length_map, List.length_map, List.length_take] at q3
            rw [sizeLine_eq]
            omega
          have q2' := KeyVs.up (K1P.same_tups s3) _ _ q2
          generalize upd G a (.tup [.str x, .int (getT X x)]) = G8 at g1' s3 ka q2' ⊢
          have tl : Tups K G8 (upd G8 L (.lst (zs ++ [.ref a]))) := Tups.put fun xs e => by
            rcases e with e | ⟨o, e⟩
            · rw [g1'] at e; cases e
            · rw [g1'] at e; cases e
          refine ⟨zs, g1', zl, fun b o q => ?_, zs ++ [.ref a], upd_same, ?_⟩
          · have neq : b ≠ L := fun z => by subst z; rw [nL] at q; cases q
            exact (upd_ne neq).trans (s3 b o (sg' b o q))
          · rw [take_snoc hx]
            unfold monX
            rw [List.map_append, List.map_append]
            exact KeyVs.up tl _ _ (K1P.keyVs_snoc q2' ka)
        · rw [List.length_map, List.take_length] at q2
          have sFG : Same F G := s2.trans sg'
          refine ⟨L, zs, rfl, SqL.of q1, fun b ob nb od => ?_⟩
          have fb : FrzT (upd G b (.frz ob (.tup zs))) b := ⟨ob, zs, upd_same, od⟩
          have s4 : Same F (upd G b (.frz ob (.tup zs))) := sFG.trans (same_new nb)
          have kb : KeyV K (upd G b (.frz ob (.tup zs))) (K2P.monK (monX X ys)) (.ref b) := .frz upd_same (fun k hk => by
            obtain ⟨y, _, rfl⟩ := List.mem_map.mp hk
            exact ⟨_, rfl⟩) (KeyVs.up (Tups.put (not_tup_none nb)) _ _ q2)
          have bb := bF.trans (But.same s4)
          have f5 := fF.same s4
          have dT5 : DictF K w (upd G b (.frz ob (.tup zs))) D T := DictF.up dF' s4
          generalize upd G b (.frz ob (.tup zs)) = G5 at kb bb f5 dT5 fb ⊢
          -- table[monomial] = factor
          refine ⟨_, rfl, _, rfl, p, l, g, rfl, f5, g1, g2, fun zn G6 n0 n1 f6 b6' => ?_⟩
          have dT6 := f5.dict b6' dT5
          have kb6 := KeyV.up (f5.tups b6') _ _ kb
          have fb6 := FrzT.up fb (f5.tups (K := K) b6')
          have bG6 := bb.trans b6'
          obtain ⟨os, o1, o2, o3, o4⟩ := dT6
          obtain ⟨mo, mn⟩ := monX_ok ed l0 pm up
          have ol : os.length < sizeLine := by
            have q1 := ints_len o3
            have q2 := tT.len
            rw [len_ni] at q1
            rw [sizeLine_eq]
            omega
          have dk : (K2P.monK (monX X ys)).depth ≤ 8 := Nat.le_trans (dep_mon _) (by decide)
          refine ⟨_, rfl, _, rfl, D, b, os, K2P.monK (monX X ys), rfl, rfl, o1, o2.1, ol, kb6, dk, _, _, _, _, _, _, _, rfl, f6.setD o1, bG6.set nD, putT T (monX X ys) zn, ?_, tT.put mo mn n1⟩
          have q := dict_putF zn o1 o2 o3 o4 kb6 dk fb6
          rw [putI_ni] at q
          exact q
    · subst hσ
      exact ⟨_, rfl, go D T G fG bG nD dT (tT.mono (by omega))⟩
end
end K3

set_option Elab.async false
set_option linter.all false
set_option maxRecDepth 100000
set_option maxHeartbeats 4000000
set_option autoImplicit false
/-! sorted over tuples, some of them perhaps empty; no program here. -/
namespace K6
open PySem PySem.Spec PySem.Calls PyProof.Rows PySem.W PySem.SeqAt
section
variable {prog : Program} {w : World} {A : Around} {s : Shared} {E : Value → Shared → Prop}
/-- tuple's own less-than -/
theorem tup_less {Q : Value → Shared → Prop} {p q : Addr} {us vs : Array Value} {e r : Nat → Bool} (hp : s.heap.IsTuple p us) (hq : s.heap.IsTuple q vs)
    (he : ∀ j (g1 : j < us.size) (g2 : j < vs.size), EqAt A.in1 s us[j] vs[j] (e j)) (hr : ∀ j (g1 : j < us.size) (g2 : j < vs.size), e j = false → RcLt A.in1 s us[j] vs[j] (r j))
    (fin : Q (.bool (firstLt e r (decide (us.size < vs.size)) (List.range (min us.size vs.size)))) s) : wpAny (model prog w) A (call (.builtin "tuple.__lt__") [.ref p, .ref q]) Q E s := by
  obtain ⟨⟨c1, d1, t1, l1⟩, m1, e1, n1, f1⟩ := id hp
  obtain ⟨⟨c2, d2, t2, l2⟩, m2, e2, n2, f2⟩ := id hq
  simp only at e1 f1 e2 f2
  subst e1 f1 e2 f2
  exact call_meets F.slot_tuple_lt ⟨_, m1, rfl⟩ F.entry_tuple_lt (F.args_tuple_lt_2 _ _) (tuple_ltAt p q us vs n1 n2 d1 d2 l1 l2 e r) ⟨m1, m2, he, hr, fin⟩
theorem tup_one {xs ys : List PyData} {a b : Value} {as bs : List Addr} {Q : Bool → Shared → Prop} (ra : Reads s.heap a (.tuple xs) as) (rb : Reads s.heap b (.tuple ys) bs) (al : alikeAll xs ys = true)
    (hu : A.units + min (PyData.tuple xs).depth (PyData.tuple ys).depth < cLine) (hq : Q (dataLt (.tuple xs) (.tuple ys)) s) : wpAny (model prog w) A (oneLt' true a b) Q E s := by
  cases ra with
  | @tuple l o us n _ as1 g1 g2 g3 g4 =>
    cases rb with
    | @tuple l' o' vs n' _ bs1 k1 k2 k3 k4 =>
      have z1 : us.size = xs.length := by simpa using ReadsAll.length _ _ _ g4
      have z2 : vs.size = ys.length := by simpa using ReadsAll.length _ _ _ k4
      rw [dataLt_tuple, ← firstLt_toks xs ys al, ← z1, ← z2] at hq
      rw [oneLt'_eq]
      simp only [if_true]
      refine wpAny_bind (wpAny_cRoomFor (room_here hu) (wpAny_bind (wpAny_callSpecialIfBound?_slot (T := "tuple") ⟨_, g1, g2⟩ F.slot_tuple_lt ?_)))
      refine tup_less (e := pairEq xs ys) (r := fun j => dataLt (xs.getD j .none) (ys.getD j .none)) ⟨_, g1, g2, _, g3⟩ ⟨_, k1, k2, _, k3⟩ (fun j j1 j2 => ?_) (fun j j1 j2 hj => ?_) (wpAny_truthy_bool hq)
      · have q := eqAt_alikeAll xs ys A.in1 s us.toList vs.toList _ _ g4 k4 al (room_in hu) j (by simpa using j1) (by simpa using j2)
        simpa using q
      · have q := rcLt_alikeAll xs ys A.in1 s us.toList vs.toList _ _ g4 k4 al (room_in hu) j (by simpa using j1) (by simpa using j2) hj
        simpa using q
def TupHd (h : Heap) (v : Value) (f : Option Value) : Prop := ∃ a o xs n, v = .ref a ∧ h.get? a = some o ∧ o.cls = .type "tuple" ∧ o.data = .seq xs n ∧ xs[0]? = f
theorem tups_firsts {M : Model} : ∀ (vs : List Value) (fs : List (Option Value)) {Q : List (Option Value) → Shared → Prop}, EachIs (TupHd s.heap) vs fs → Q fs s → wpAny M A (vs.mapM firstOfTuple') Q E s
  | _, _, _, .nil, h => by rw [List.mapM_nil]; exact wpAny_pure h
  | v :: vs, f :: fs, Q, .cons ⟨a, o, xs, n, ev, ho, hc, hd, hf⟩ t, h => by
    subst ev
    rw [List.mapM_cons]
    refine wpAny_bind ?_
    rw [kas_first_eq]
    refine wpAny_bind ((show Looks M s.heap (typeOf (.ref a)) o.cls from (Looks.ld ho).andThen .now).here ?_)
    rw [hc, if_neg (by decide)]
    refine wpAny_bind (listItems_at ho hd (wpAny_pure ?_))
    rw [hf]
    exact wpAny_bind (tups_firsts vs fs (Q := fun zs s' => wpAny M A (pure (f :: zs)) Q E s') t (wpAny_pure h))
theorem tups_looks {M : Model} : ∀ {vs : List Value} {fs : List (Option Value)}, EachIs (TupHd s.heap) vs fs → ∀ v ∈ vs, Looks M s.heap (typeOf v) (.type "tuple")
  | _, _, .cons ⟨a, o, xs, n, ev, ho, hc, hd, hf⟩ t, v, h => by
    rcases List.mem_cons.mp h with e | h
    · subst e ev
      exact hc ▸ (Looks.ld ho).andThen .now
    · exact tups_looks t v h
theorem tups_kind {M : Model} {vs : List Value} {fs : List (Option Value)} {Q : SortKind → Shared → Prop} (t : EachIs (TupHd s.heap) vs fs) (h2 : 2 ≤ vs.length) (nn : fs.all (·.isSome) = false)
    (h : Q (if (fs.head?.bind id).isSome = true then general' else oneType') s) : wpAny M A (keyKind' vs.toArray) Q E s := by
  rw [kat_kind_eq, List.mapM_toArray, map_eq_pure_bind]
  refine wpAny_bind (wpAny_bind (tups_firsts vs fs t (wpAny_pure ?_)))
  rw [if_neg (by rw [List.all_toArray, nn]; exact Bool.false_ne_true)]
  have e0 : fs.toArray[0]? = fs.head? := by rw [List.getElem?_toArray, List.head?_eq_getElem?]
  rw [e0]
  by_cases q : (fs.head?.bind id).isSome = true
  · rw [if_pos q] at h ⊢
    exact wpAny_pure h
  · rw [if_neg q] at h ⊢
    rw [oneTypeOnly'_eq, List.mapM_toArray, map_eq_pure_bind]
    refine wpAny_bind (wpAny_bind (wpAny_bind (kas_mapM (r := Value.type "tuple") _ (fun v hv Q' hq => (tups_looks t v hv).here hq) (wpAny_pure ?_))))
    have ha : ((vs.map fun _ => Value.type "tuple").toArray.all fun x => x == Value.type "tuple") = true := by
      simp only [List.all_toArray, List.all_map, List.all_eq_true]
      exact fun _ _ => rfl
    have h0 : (vs.map fun _ => Value.type "tuple").toArray[0]? = some (Value.type "tuple") := by
      cases vs with
      | nil => exact absurd h2 (by simp)
      | cons v r => simp
    rw [h0]
    simp only [ha, if_true]
    exact wpAny_pure (wpAny_pure h)
theorem tups_hd {h : Heap} : ∀ {vs : List Value} {ds : List PyData}, EachIs (fun v d => ∃ as, Reads h v d as) vs ds → (∀ d ∈ ds, ∃ xs, d = .tuple xs) → ∃ fs, EachIs (TupHd h) vs fs ∧ fs.length = ds.length ∧ ∀ (j : Nat) (f : Option Value), fs[j]? = some f → ∃ xs, ds[j]? = some (.tuple xs) ∧ f.isSome = !xs.isEmpty
  | _, _, .nil, _ => ⟨[], .nil, rfl, fun j f hf => by simp at hf⟩
  | _, _, .cons (b := d) ⟨as, r⟩ t, ht => by
    obtain ⟨fs, h1, h2, h3⟩ := tups_hd t fun d hd => ht d (List.mem_cons_of_mem _ hd)
    obtain ⟨xs, rfl⟩ := ht d (List.mem_cons_self ..)
    cases r with
    | @tuple a o us n _ _ ho hc hd hr =>
      refine ⟨us[0]? :: fs, .cons ⟨a, o, us, n, rfl, ho, hc, hd, rfl⟩ h1, by rw [List.length_cons, List.length_cons, h2], fun j f hf => ?_⟩
      cases j with
      | zero =>
        cases hf
        refine ⟨xs, rfl, ?_⟩
        have z : us.size = xs.length := by simpa using ReadsAll.length _ _ _ hr
        cases xs with
        | nil =>
          have : us.size = 0 := z
          rw [Array.getElem?_eq_none (by omega)]
          rfl
        | cons x xs =>
          have : 0 < us.size := by rw [z]; exact Nat.succ_pos _
          rw [Array.getElem?_eq_getElem this]
          rfl
      | succ j => exact h3 j f hf
/-- tuples that are alike can be sorted -/
theorem sorts_tups {vs : List Value} {ds : List PyData} (e : EachIs (fun v d => ∃ as, Reads s.heap v d as) vs ds) (hal : AllAlike ds) (ht : ∀ d ∈ ds, ∃ xs, d = .tuple xs) (hu : ∀ d, d ∈ ds → A.units + d.depth < cLine) : SortsAt prog w A s (dataKind s.heap ds) vs := by
  obtain ⟨fs, t1, t2, t3⟩ := tups_hd e ht
  cases q : fs.all (·.isSome) with
  | true =>
    refine SortsAt.data e hal (.inl fun d hd => ?_) hu
    obtain ⟨j, hj, ej⟩ := List.mem_iff_getElem.mp hd
    have hf : fs[j]? = some (fs[j]'(by omega)) := List.getElem?_eq_getElem _
    obtain ⟨xs, h1, h2⟩ := t3 j _ hf
    rw [List.getElem?_eq_getElem hj, ej] at h1
    rw [List.all_eq_true.mp q _ (List.mem_of_getElem? hf)] at h2
    cases xs with
    | nil => cases h2
    | cons x r => exact ⟨x, r, Option.some.inj h1⟩
  | false =>
    refine ⟨fun v hv => ?_, (if (fs.head?.bind id).isSome = true then general' else oneType'), ?_, fun h2 E Q hq => tups_kind t1 h2 q hq⟩
    · obtain ⟨d, hd, as, r⟩ := e.left v hv
      exact ⟨_, dataKind_some hal hd r⟩
    · intro E x y a b Q ha hb hq
      obtain ⟨d, as, hd, ra, rfl⟩ := dataKind_inv ha
      obtain ⟨d', as', hd', rb, rfl⟩ := dataKind_inv hb
      have al := hal d hd d' hd'
      have room : A.units + min d.depth d'.depth < cLine := Nat.lt_of_le_of_lt (Nat.add_le_add_left (Nat.min_le_left _ _) _) (hu d hd)
      obtain ⟨xs, rfl⟩ := ht d hd
      obtain ⟨ys, rfl⟩ := ht d' hd'
      split
      · exact oneLt_alike (f := false) (fun z => by cases z) ra rb al (fun z => by cases z) room hq
      · rw [keyLt'_oneType]
        exact tup_one ra rb (by simpa [alike] using al) room hq
variable {β : Type} {R : Value → β → Prop} {enc : β → PyData} {vs : List Value} {bs : List β}
theorem sorted_tups {l : Addr} {Q : Value → Shared → Prop} (hl : s.heap.IsList l vs.toArray) (e : EachIs R vs bs) (er : EachIs (fun v b => ∃ as, Reads s.heap v (enc b) as) vs bs) (hal : AllAlike (bs.map enc)) (hk : ∀ b, ∃ xs, enc b = .tuple xs) (hL : bs.length ≤ sizeLine)
    (hu : ∀ b, b ∈ bs → A.units + 2 + (enc b).depth < cLine) (h : ∀ out, out.length = bs.length → EachIs R out (bs.mergeSort (dataLe false enc)) → Q (.ref (s.heap.objs.size + 1)) { s with heap := sortedAll s.heap vs (List.toArray out) }) :
    wpAny (model prog w) A (call (.builtin "sorted") [.ref l]) Q E s := by
  have er' : EachIs (fun v b => ∃ as, Reads (sortingHeap (copyHeap s.heap vs) (s.heap.objs.size + 1) vs) v (enc b) as) vs bs := er.mono fun _ _ ⟨as, r⟩ => ⟨as, PyProof.Rows.Reads.keeps (fun _ _ => sorting_copy_old) r⟩
  refine sorted_vals hl (sorts_tups (s := { s with heap := sortingHeap (copyHeap s.heap vs) (s.heap.objs.size + 1) vs }) (each_map enc er') hal (fun d hd => ?_) (bound_map hu)) (by rw [e.length]; exact hL) ?_
  · obtain ⟨b, _, rfl⟩ := List.mem_map.mp hd
    exact hk b
  · exact h _ ((sortVals_length false rfl).trans e.length) (sortVals_data false e er' hal)
end
end K6

set_option Elab.async false
set_option linter.all false
set_option maxRecDepth 100000
set_option maxHeartbeats 8000000
set_option autoImplicit false
set_option pp.maxSteps 600
/-! The polynomial of a table; a polynomial as it is handed in. -/
namespace K3
open PySem PySem.Spec PyProof.Rows L2 K1D K2P
open PySem.W (EachIs dataLe AllAlike)
abbrev sPolyT : Stmt := K2P.top 39
abbrev sHand : Stmt := K2P.top 40
section
variable {K : PySem.W.Frag} {H : Hp} {Pv : V → Prop}
theorem each_of_ksP {β : Type} (enc : β → NestedKey) : ∀ {bs : List β} {xs : List V} {us : List Value}, KeyVs K H (bs.map enc) xs → (∀ v ∈ xs, Pv v) → Vals xs us → EachIs (fun v b => ∃ x, RelV x v ∧ KeyV K H (enc b) x ∧ Pv x) us bs
  | [], _, _, h, _, r => by cases h; cases r; exact .nil
  | b :: bs, _, _, h, pv, r => by
    cases h with
    | cons h1 h2 =>
      cases r with
      | cons r1 r2 => exact .cons ⟨_, r1, h1, pv _ List.mem_cons_self⟩ (each_of_ksP enc h2 (fun v hv => pv v (List.mem_cons_of_mem _ hv)) r2)
theorem ks_of_eachP {β : Type} (enc : β → NestedKey) : ∀ {us : List Value} {bs : List β}, EachIs (fun v b => ∃ x, RelV x v ∧ KeyV K H (enc b) x ∧ Pv x) us bs → ∃ zs, Vals zs us ∧ KeyVs K H (bs.map enc) zs ∧ ∀ v ∈ zs, Pv v
  | _, _, .nil => ⟨[], .nil, .nil, fun v hv => nomatch hv⟩
  | _, _, .cons ⟨x, r, k, pv⟩ t => by
    obtain ⟨zs, h1, h2, h3⟩ := ks_of_eachP enc t
    exact ⟨x :: zs, .cons r h1, .cons k h2, fun v hv => (List.mem_cons.mp hv).elim (fun e => by rw [e]; exact pv) (h3 v)⟩
end
/-- sorted(xs), the items nested tuples of one kind, some perhaps empty -/
def rSortT (K : PySem.W.Frag) {β : Type} (enc : β → NestedKey) : List V → Hp → VK → Prop := fun vs H Q => ∃ (bs : List β) (a : Addr) (xs : List V), vs = [V.ref a] ∧ SqL K H a xs ∧ KeyVs K H (bs.map enc) xs ∧ ∃ Pv : V → Prop, (∀ v ∈ xs, Pv v) ∧
  ∀ (zs : List V) (p : Addr), KeyVs K H ((bs.mergeSort (dataLe false fun b => (enc b).data)).map enc) zs → (∀ v ∈ zs, Pv v) → H p = none → Q (.ref p) (upd H p (.lst zs))
theorem cr_sortT {X : Cx} (hu : X.A.units + 64 < cLine) {β : Type} {enc : β → NestedKey} (al : ∀ a b, PySem.W.alike (enc a).data (enc b).data = true) (tp : ∀ b, ∃ ks, enc b = .tup ks) (dp : ∀ b, (enc b).depth ≤ 9) : CallR X (.builtin "sorted") (rSortT X.K enc) := by
  intro pins s σ H vs us Q I r h
  obtain ⟨bs, a, xs, rfl, hs, hk, Pv, hpv, q⟩ := h
  obtain ⟨its, rv, hl, hz⟩ := I.list hs
  rw [Vals.ref1 r]
  have e1 := each_of_ksP enc hk hpv rv
  have lb : its.length = bs.length := e1.length
  have lx : xs.length = its.length := rv.length
  have er : EachIs (fun v b => ∃ as, Reads s.heap v ((fun b => (enc b).data) b) as) its bs := e1.mono fun v b ⟨x, rx, kx, _⟩ => ⟨[], KeyV.reads I _ _ _ kx rx⟩
  have all : AllAlike (bs.map fun b => (enc b).data) := by
    intro d1 h1 d2 h2
    obtain ⟨y1, m1, rfl⟩ := List.mem_map.mp h1
    obtain ⟨y2, m2, rfl⟩ := List.mem_map.mp h2
    exact al _ _
  have ls : bs.length ≤ sizeLine := by rw [← lb, ← lx]; exact hz
  refine K6.sorted_tups (enc := fun b => (enc b).data) hl.isList e1 er all (fun b => ?_) ls (fun b hb => ?_) fun out ol oe => ?_
  · obtain ⟨ks, e⟩ := tp b
    exact ⟨NestedKey.datas ks, by rw [e, NestedKey.data]⟩
  · have := dp b
    rw [key_depth]
    omega
  · obtain ⟨zs, vz, kz, pz⟩ := ks_of_eachP enc oe
    obtain ⟨ep, he'⟩ := PyProof.Rows.sortedAll_at s.heap its out.toArray
    have lz : zs.length ≤ sizeLine := by rw [vz.length, ol]; exact ls
    exact ⟨.ref _, upd H (s.heap.objs.size + 1) (.lst zs), I.laid (t' := s.toks) (fun _ _ => PyProof.Rows.sortedAll_old) (Nat.le_succ _) ⟨lz, out, ep, vz, by rw [← he']⟩, rfl, q zs _ kz pz (I.hok.fresh (Nat.le_succ _))⟩
/-- the monomials of a table, rising -/
def monsT (T : Poly) : List Mon := (T.map (·.1)).mergeSort (dataLe false fun m => (K2P.monK m).data)
def oneT (T : Poly) (m : Mon) : Option Term := if getT T m ≠ 0 then some (m, getT T m) else none
theorem oneT_nz {T : Poly} (nd : (T.map (·.1)).Nodup) : (T.map (·.1)).filterMap (oneT T) = nzP T := by
  have h : ∀ S : Poly, (∀ t ∈ S, t ∈ T) → (S.map (·.1)).filterMap (oneT T) = nzP S := by
    intro S
    induction S with
    | nil => exact fun _ => rfl
    | cons t S ih =>
      intro sub
      have g : getT T t.1 = t.2 := by
        unfold getT
        rw [(valT_mem nd).mpr (show (t.1, t.2) ∈ T from sub t List.mem_cons_self)]
        rfl
      rw [List.map_cons, List.filterMap_cons]
      unfold nzP
      rw [List.filter_cons]
      unfold oneT
      rw [g]
      have ih' := ih fun x hx => sub x (List.mem_cons_of_mem _ hx)
      unfold oneT nzP at ih'
      by_cases z : t.2 = 0
      · rw [if_neg (fun q => q z), if_neg (by simp [z])]
        exact ih'
      · rw [if_pos z, if_pos (by simpa using z)]
        show (t.1, t.2) :: _ = _
        rw [ih']
  exact h T fun t ht => ht
theorem polyT_mons {T : Poly} (ok : ∀ t ∈ T, MonOk t.1) (nd : (T.map (·.1)).Nodup) : (monsT T).filterMap (oneT T) = polyT T := by
  have pm : (monsT T).Perm (T.map (·.1)) := List.mergeSort_perm _ _
  have p2 : ((monsT T).filterMap (oneT T)).Perm (nzP T) := by
    rw [← oneT_nz nd]
    exact pm.filterMap _
  obtain ⟨o1, o2⟩ := polyT_ok ok nd
  have up := sortK_up (enc := K2P.monK) al_mon (fun _ _ => monK_inj) nd
  have ok1 : PolyOk ((monsT T).filterMap (oneT T)) := by
    refine ⟨fun t ht => ?_, ?_⟩
    · obtain ⟨h1, h2⟩ := List.mem_filter.mp (p2.mem_iff.mp ht)
      exact ⟨ok t h1, by simpa using h2⟩
    · refine List.Pairwise.filterMap _ (fun a a' h b hb b' hb' => ?_) up
      unfold oneT at hb hb'
      split at hb
      · split at hb'
        · cases hb; cases hb'; exact h
        · cases hb'
      · cases hb
  refine ok1.ext o1 fun f => ?_
  rw [o2, ← tot_nz]
  exact tot_permA (p2.map _) f
/-- a polynomial whose monomials are held still -/
def PolyF (K : PySem.W.Frag) (H : Hp) (p : Poly) (a : Addr) : Prop := ∃ xs : List V, Rd H a (.tup xs) ∧ KeyVs K H (p.map K2P.termK) xs ∧ ∀ v ∈ xs, ∃ (q m : Addr) (c : V), v = .ref q ∧ H q = some (.tup [.ref m, c]) ∧ FrzT H m
theorem Tups.rd {K : PySem.W.Frag} {H G : Hp} (t : Tups K H G) {a : Addr} {xs : List V} (h : Rd H a (.tup xs)) : Rd G a (.tup xs) := h.imp (t.t _ _) fun ⟨o, q⟩ => ⟨o, t.f _ _ _ q⟩
theorem PolyF.up {K : PySem.W.Frag} {H G : Hp} {p : Poly} {a : Addr} (h : PolyF K H p a) (t : Tups K H G) : PolyF K G p a := by
  obtain ⟨xs, h1, h2, h3⟩ := h
  refine ⟨xs, Tups.rd t h1, KeyVs.up t _ _ h2, fun v hv => ?_⟩
  obtain ⟨q, m, c, e, hq, hm⟩ := h3 v hv
  exact ⟨q, m, c, e, t.t _ _ hq, FrzT.up hm t⟩
theorem PolyF.kv {K : PySem.W.Frag} {H : Hp} {p : Poly} {a : Addr} (h : PolyF K H p a) : KeyV K H (K2P.polyK p) (.ref a) := by
  obtain ⟨xs, h1, h2, h3⟩ := h
  exact kv_poly.mpr ⟨a, xs, rfl, h1, h2⟩
def spPolyT (K : PySem.W.Frag) (w : World) : Sp := fun vs H Q _ => ∃ (d : Addr) (T : Poly), vs = [.ref d] ∧ DictF K w H d T ∧ (∀ t ∈ T, MonOk t.1) ∧ T.length < sizeLine ∧ ∀ (a : Addr) (G : Hp), Same H G → PolyF K G (polyT T) a → Q (.ref a) G
def rListOf (K : PySem.W.Frag) : List V → Hp → VK → Prop := fun xs H Q => ∃ p ys, xs = [.ref p] ∧ (SqL K H p ys ∨ SqT K H p ys) ∧ ∀ l, H l = none → Q (.ref l) (upd H l (.lst ys))
def spHand (K : PySem.W.Frag) : Sp := fun vs H Q _ => ∃ (p l a : Addr) (P : Poly), vs = [.ref p, .ref a] ∧ TapeL H p l ∧ KeyV K H (K2P.polyK P) (.ref a) ∧ P.length < sizeLine ∧ (∀ t ∈ P, t.1.length < sizeLine) ∧
  ∀ (b : Bool) (a' : Addr) (G : Hp), TapeL G p l → But p H G → PolyB b K G P a' → Q (.ref a') G
def inScope : List Stmt → Scope
  | [.If _ [.Return (some (.ListComp _ _ s _)) _] _ _, _] => s
  | _ => defScope sHand
/-- a factor, a term as lists, away from the list at M -/
def FacL (M : Addr) (F : Hp) (f : Fac) (v : V) : Prop := ∃ t : Addr, v = .ref t ∧ F t = some (.lst [.str f.1, .int f.2]) ∧ t ≠ M
def TermL (L : Addr) (G : Hp) (t : Term) (v : V) : Prop := ∃ (q mo : Addr) (ms : List V), v = .ref q ∧ G q = some (.lst [.ref mo, .int t.2]) ∧ G mo = some (.lst ms) ∧ q ≠ L ∧ mo ≠ L ∧ AllV (FacL L G) t.1 ms
theorem FacL.up {M : Addr} {F G : Hp} {f : Fac} {v : V} (h : FacL M F f v) (b : But M F G) : FacL M G f v := by
  obtain ⟨t, e, h1, h2⟩ := h
  exact ⟨t, e, b _ _ h2 h1, h2⟩
theorem TermL.up {L : Addr} {F G : Hp} {t : Term} {v : V} (h : TermL L F t v) (b : But L F G) : TermL L G t v := by
  obtain ⟨q, mo, ms, e, h1, h2, h3, h4, h5⟩ := h
  exact ⟨q, mo, ms, e, b _ _ h3 h1, b _ _ h4 h2, h3, h4, h5.mono fun f v x => x.up b⟩
theorem TermL.is {K : PySem.W.Frag} {L : Addr} {G : Hp} {t : Term} {v : V} (h : TermL L G t v) : TermB true K G t v := by
  obtain ⟨q, mo, ms, e, h1, h2, h3, h4, h5⟩ := h
  exact ⟨q, .ref mo, e, SqL.of h1, mo, ms, rfl, SqL.of h2, h5.mono fun f v ⟨r, e, hr, _⟩ => ⟨r, e, SqL.of hr⟩⟩
theorem AllV.snoc {β : Type} {R : β → V → Prop} {bs : List β} {vs : List V} {b : β} {v : V} (h : AllV R bs vs) (r : R b v) : AllV R (bs ++ [b]) (vs ++ [v]) := by
  refine ⟨by rw [List.length_append, List.length_append, h.1]; rfl, fun i x u ex eu => ?_⟩
  rcases Nat.lt_or_ge i bs.length with lt | ge
  · rw [List.getElem?_append_left lt] at ex
    rw [List.getElem?_append_left (by rw [h.1]; exact lt)] at eu
    exact h.2 i x u ex eu
  · rw [List.getElem?_append_right ge] at ex
    rw [List.getElem?_append_right (by rw [h.1]; exact ge), h.1] at eu
    cases k : i - bs.length with
    | zero =>
      rw [k] at ex eu
      cases ex
      cases eu
      exact r
    | succ n =>
      rw [k] at ex
      simp at ex
section
variable {P : Program} {w : World} {K : PySem.W.Frag} {mg : Str → Option Value} {base : Heap} {fD : Addr} {dD : FuncData}
theorem scPolyT : FnScope ["table", "monomial"] ["table"] (defScope sPolyT) := ⟨rfl, rfl, rfl, by decide +kernel, rfl, by decide +kernel, by decide +kernel⟩
theorem scHand : FnScope ["tape", "poly", "monomial", nv, "pair"] ["tape", "poly"] (defScope sHand) := ⟨rfl, rfl, rfl, by decide +kernel, rfl, by decide +kernel, by decide +kernel⟩
theorem keyVs_keysM : ∀ {kvs : List NE} {T : Poly} {H : Hp}, KeysN K H kvs → IntsN kvs (niT T) → KeyVs K H ((T.map (·.1)).map K2P.monK) (kvs.map fun x => V.ref x.2.1)
  | [], T, H, _, h => by
    have := ints_len h
    rw [len_ni] at this
    rw [List.length_eq_zero_iff.mp this.symm]
    exact .nil
  | x :: kvs, [], H, _, h => by
    have := ints_len h
    cases this
  | x :: kvs, t :: T, H, ks, h => by
    obtain ⟨c, r, e1, e, tl⟩ := ints_cons h
    have e2 : (K2P.monK t.1, t.2) :: niT T = (x.1, c) :: r := e1
    obtain ⟨e3, e4⟩ := List.cons.inj e2
    have k := (ks x (List.mem_cons_self ..)).1
    rw [← (Prod.mk.inj e3).1] at k
    rw [← e4] at tl
    exact .cons k (keyVs_keysM (fun y hy => ks y (List.mem_cons_of_mem _ hy)) tl)
theorem ok_polyT {f : Addr} {fd : FuncData} (F : Fun K "_law_poly" "_law_poly" sPolyT f fd) (Z : DrawTxt P w K mg base fD dD) : FnOk P w K mg base CX0 1 f fd ["table"] (spPolyT K w) := by
  refine F.ok scPolyT (fun vs H Q E h => ?_) (fun cdv A outer s H vs Q E hr h => ?_)
  · obtain ⟨d, T, rfl, _⟩ := h
    rfl
  · obtain ⟨d, T, rfl, ⟨kvs, hd, ⟨ks, kf⟩, im, nd⟩, ok, lt, go⟩ := h
    refine ⟨_, (pss_one (ps_ret (pe_tupleOf (by rfl) Z.tuple (pe_lc (own := [("monomial", 1)]) (g := (gName 1)) (tt := (tTest (tOp rNe (tNGet K w (tVar 0) (tVar 1)) (tC (.int 0))))) (te := (tTup (tCons (tVar 1) (tCons (tNGet K w (tVar 0) (tVar 1)) tNil)))) rfl scPolyT.nd (pi_list (pe_callB (cr_sortT hr.units al_mon (fun m => ⟨_, rfl⟩) (fun m => Nat.le_trans (dep_mon m) (by decide))) (by rfl) Z.sorted (by decide +kernel) (pa_cons (pe_callTy (call_list_dN rfl) (by rfl) Z.list (by decide +kernel) (pa_cons (pv 0) pa_nil)) pa_nil))) (blkOk_by (own := [("monomial", 1)]) (N := ["table", "monomial"]) (sc := defScope sPolyT) (by decide +kernel)) (fun _ _ _ _ _ => (pg_name (i := 1) scPolyT.nd rfl (Or.inl rfl))) (fun _ _ _ _ _ => (pts_one (pt_cmpR op_ne (pe_nget (K1P.hu9 hr) (pv 0) (pv 1) (fun _ _ => rfl)) pe_int (nomark _)))) (fun _ _ _ _ _ => (pe_tup (pa_cons (pv 1) (pa_cons (pe_nget (K1P.hu9 hr) (pv 0) (pv 1) (fun _ _ => rfl)) pa_nil)))))))), ?_⟩
    have ndT : (T.map (·.1)).Nodup := nodup_ni.mp nd
    refine ⟨_, rfl, d, kvs, rfl, .inl hd, fun l nl => ?_⟩
    have s1 : Same H (upd H l (.lst (kvs.map fun x => V.ref x.2.1))) := same_new nl
    refine ⟨T.map (fun t : Term => t.1), l, _, rfl, SqL.of upd_same, keyVs_keysM (ks.up (K1P.same_tups s1)) im, fun v => ∃ b, v = .ref b ∧ FrzT H b, fun v hv => ?_, fun zs p kz pz np => ?_⟩
    · obtain ⟨x, hx, rfl⟩ := List.mem_map.mp hv
      exact ⟨_, rfl, kf x hx⟩
    have s2 : Same H (upd (upd H l (.lst (kvs.map fun x => V.ref x.2.1))) p (.lst zs)) := s1.trans (same_new np)
    have hp : upd (upd H l (.lst (kvs.map fun x => V.ref x.2.1))) p (.lst zs) p = some (.lst zs) := upd_same
    have kz2 := KeyVs.up (K1P.same_tups (same_new (o := .lst zs) np)) _ _ kz
    generalize upd (upd H l (.lst (kvs.map fun x => V.ref x.2.1))) p (.lst zs) = H2 at s2 hp kz2 ⊢
    have kz3 : KeyVs K H2 ((monsT T).map K2P.monK) zs := kz2
    clear kz kz2
    have lz : zs.length = T.length := by
      rw [K1P.keyVs_len kz3, List.length_map]
      unfold monsT
      rw [List.length_mergeSort, List.length_map]
    refine ⟨p, rfl, ⟨zs, SqL.of hp⟩, fun L nL => ?_⟩
    refine lc_list (K := K) (a := p) (xs := zs) (fun (j : Nat) (G : Hp) => Same H2 G ∧ ∃ ys : List V, G L = some (.lst ys) ∧ ys.length ≤ j ∧ KeyVs K G ((((monsT T).take j).filterMap (oneT T)).map K2P.termK) ys ∧ ∀ v ∈ ys, ∃ (q m : Addr) (c : V), v = .ref q ∧ G q = some (.tup [.ref m, c]) ∧ FrzT G m) ⟨same_new nL, [], upd_same, Nat.le_refl _, .nil, fun v hv => nomatch hv⟩
      (fun j G _ ⟨sg, _⟩ => SqL.of (sg _ _ hp)) (fun j v G hv ⟨sg, ys, g1, g2, g3, g4⟩ => ?_) (fun G ⟨sg, ys, g1, g2, g3, g4⟩ => ?_)
    · obtain ⟨k, hk, kv⟩ := keyVs_get kz3 hv
      rw [List.getElem?_map] at hk
      obtain ⟨m, hm, rfl⟩ := Option.map_eq_some_iff.mp hk
      have mT : m ∈ T.map (·.1) := (List.mergeSort_perm _ _).mem_iff.mp (List.mem_of_getElem? hm)
      have lj : j < zs.length := (List.getElem?_eq_some_iff.mp hv).1
      obtain ⟨b, xs, rfl, hb, kxs⟩ := kv_mon.mp kv
      obtain ⟨b', eb, fb⟩ := pz _ (List.mem_of_getElem? hv)
      cases eb
      have fG := FrzT.up fb ((K1P.same_tups (K := K) s2).trans (K1P.same_tups sg))
      have kG : KeyV K G (K2P.monK m) (.ref b) := KeyV.up (K1P.same_tups sg) _ _ kv
      have dG : G d = some (dN w d kvs) := sg _ _ (s2 _ _ hd)
      have ksG : KeysN K G kvs := (ks.up (K1P.same_tups s2)).up (K1P.same_tups sg)
      have hv' : valN kvs (K2P.monK m) = some (.int (getT T m)) := by
        rw [ints_val im, valI_ni]
        unfold getT
        cases q : valT T m with
        | none => exact absurd mT (valT_none.mp q)
        | some c => rfl
      have dk : (K2P.monK m).depth ≤ 8 := Nat.le_trans (dep_mon m) (by decide)
      refine ⟨rfl, _, rfl, _, rfl, d, b, kvs, K2P.monK m, _, rfl, rfl, .inl dG, ksG, kG, dk, hv', rfl, _, rfl, ?_⟩
      have yl : ys.length < sizeLine := by omega
      have et : (monsT T).take (j + 1) = (monsT T).take j ++ [m] := take_snoc hm
      by_cases z : getT T m = 0
      · refine ifN (by simp [z]) ⟨sg, ys, g1, by omega, ?_, g4⟩
        rw [et, List.filterMap_append]
        have e0 : [m].filterMap (oneT T) = [] := by
          rw [List.filterMap_cons]
          unfold oneT
          rw [if_neg (fun q => q z)]
          rfl
        rw [e0, List.append_nil]
        exact g3
      · refine ifY (by simp [z]) ?_
        refine ⟨_, rfl, _, rfl, _, rfl, d, b, kvs, K2P.monK m, _, rfl, rfl, .inl dG, ksG, kG, dk, hv', by show 2 ≤ sizeLine; decide, fun t nt => ?_⟩
        have s3 : Same G (upd G t (.tup [.ref b, .int (getT T m)])) := same_new nt
        have kt : KeyV K (upd G t (.tup [.ref b, .int (getT T m)])) (K2P.termK (m, getT T m)) (.ref t) := .tup upd_same (.cons (KeyV.up (K1P.same_tups s3) _ _ kG) (.cons (.int _) .nil))
        have g1' := s3 _ _ g1
        have g3' := KeyVs.up (K1P.same_tups s3) _ _ g3
        have ht : upd G t (.tup [.ref b, .int (getT T m)]) t = some (.tup [.ref b, .int (getT T m)]) := upd_same
        have fG2 := FrzT.up fG (K1P.same_tups (K := K) s3)
        generalize upd G t (.tup [.ref b, .int (getT T m)]) = G2 at s3 kt g1' g3' ht fG2 ⊢
        refine ⟨ys, g1', yl, fun a o e => ?_, ys ++ [.ref t], upd_same, by rw [List.length_append]; show ys.length + 1 ≤ j + 1; omega, ?_, ?_⟩
        · have ne : a ≠ L := fun q => by rw [q, nL] at e; cases e
          exact (upd_ne ne).trans (s3 a o (sg a o e))
        · rw [et, List.filterMap_append]
          have e0 : [m].filterMap (oneT T) = [(m, getT T m)] := by
            rw [List.filterMap_cons]
            unfold oneT
            rw [if_pos z]
            rfl
          rw [e0, List.map_append]
          exact KeyVs.up (Tups.put fun xs q => by
            rcases q with q | ⟨o, q⟩
            · rw [g1'] at q; cases q
            · rw [g1'] at q; cases q) _ _ (K1P.keyVs_snoc g3' kt)
        · have tl : Tups K G2 (upd G2 L (.lst (ys ++ [.ref t]))) := Tups.put fun xs q => by
            rcases q with q | ⟨o, q⟩
            · rw [g1'] at q; cases q
            · rw [g1'] at q; cases q
          intro v hv
          rcases List.mem_append.mp hv with hv | hv
          · obtain ⟨q', m', c', e', h1', h2'⟩ := g4 v hv
            exact ⟨q', m', c', e', tl.t _ _ (s3 _ _ h1'), FrzT.up (FrzT.up h2' (K1P.same_tups (K := K) s3)) tl⟩
          · rw [List.mem_singleton.mp hv]
            exact ⟨t, b, _, rfl, tl.t _ _ ht, FrzT.up fG2 tl⟩
    · have lm : (monsT T).length = zs.length := by rw [K1P.keyVs_len kz3, List.length_map]
      rw [← lm, List.take_length, polyT_mons ok ndT] at g3
      refine .inl ⟨L, ys, rfl, SqL.of g1, fun t nt => ?_⟩
      exact go t _ ((s2.trans sg).trans (same_new nt)) ⟨ys, .inl upd_same, KeyVs.up (K1P.same_tups (same_new nt)) _ _ g3, fun v hv => by
        obtain ⟨q', m', c', e', h1', h2'⟩ := g4 v hv
        exact ⟨q', m', c', e', same_new nt _ _ h1', FrzT.up h2' (K1P.same_tups (K := K) (same_new nt))⟩⟩
theorem ok_hand {f : Addr} {fd : FuncData} (F : Fun K "_law_handed" "_law_handed" sHand f fd) (Z : DrawTxt P w K mg base fD dD) : FnOk P w K mg base CX0 3 f fd ["tape", "poly"] (spHand K) := by
  refine F.ok scHand (fun vs H Q E h => ?_) (fun cdv A outer s H vs Q E hr h => ?_)
  · obtain ⟨p, l, a, P, rfl, _⟩ := h
    rfl
  · obtain ⟨p, l, a, P, rfl, hf, kp, lP, lM, go⟩ := h
    refine ⟨_, (pss_cons (ps_if (pt_cmpR op_eq (pe_call Z.d.ok (hr.mono (by decide)) rfl Z.d.g Z.d.k Z.d.b .nil pass0 (pa_cons (pv 0) (pa_cons pe_int pa_nil))) pe_int (nomark _)) (pss_one (ps_ret (pe_lc (own := [("monomial", 2), (nv, 3)]) (g := (gTup K 2 (gCons (gName 2) (gCons (gName 3) gNil)))) (tt := tYes) (te := (tLst (tCons (tLc (iTup K (tVar 2)) (gName 4) tYes (tCB (rListOf K) (tCons (tVar 4) tNil)) [4]) (tCons (tVar 3) tNil)))) rfl scHand.nd (pi_tup (pv 1)) (blkOk_by (own := [("monomial", 2), (nv, 3)]) (N := ["tape", "poly", "monomial", nv, "pair"]) (sc := defScope sHand) (by decide +kernel)) (fun _ _ _ _ _ => (pg_tup rfl (pgs_cons (pg_name (i := 2) scHand.nd rfl (Or.inl rfl)) (pgs_cons (pg_name (i := 3) scHand.nd rfl (Or.inl rfl)) pgs_nil)))) (fun _ _ _ _ _ => pts_nil) (fun _ _ _ _ _ => (pe_lst (pa_cons (pe_lc (own := [("pair", 4)]) (g := (gName 4)) (tt := tYes) (te := (tCB (rListOf K) (tCons (tVar 4) tNil))) rfl scHand.nd (pi_tup (pv 2)) (blkOk_by (own := [("pair", 4)]) (N := ["tape", "poly", "monomial", nv, "pair"]) (sc := inScope (defBody sHand)) (by decide +kernel)) (fun _ _ _ _ _ => (pg_name (i := 4) scHand.nd rfl (Or.inl rfl))) (fun _ _ _ _ _ => pts_nil) (fun _ _ _ _ _ => (pe_callTy (show CallR _ (.type "list") (rListOf K) from call_list_of) (by rfl) Z.list (by decide +kernel) (pa_cons (pv 4) pa_nil)))) (pa_cons (pv 3) pa_nil))))))) pss_nil)
      (pss_one (ps_ret (pv 1)))), ?_⟩
    have c4 : ((4 : Int)).natAbs < 2 ^ 8000 := b8000 (n := 10) (by decide) (by decide)
    refine ⟨_, rfl, p, l, 4, rfl, hf, c4, fun z G1 z0 z1 f1 b1 => ?_⟩
    have kp1 := KeyV.up (hf.tups b1) _ _ kp
    refine ⟨rfl, _, rfl, ite2 (fun _ => ?_) (fun _ => ⟨_, rfl, go false a G1 f1 b1 (polyB_of kp1)⟩)⟩
    obtain ⟨a', xs, ea, ha, kxs⟩ := kv_poly.mp kp1
    cases ea
    have lx := K1P.keyVs_len kxs
    rw [List.length_map] at lx
    refine ⟨_, rfl, a, rfl, ⟨xs, .inl ha⟩, fun L nL => ?_⟩
    have L1 : ∀ {b : Addr} {o : HO}, G1 b = some o → b ≠ L := fun e => ne_of_none e nL
    refine lc_tup (K := K) (a := a) (xs := xs) (fun (j : Nat) (G : Hp) => Same G1 G ∧ ∃ ys : List V, G L = some (.lst ys) ∧ AllV (TermL L G) (P.take j) ys) ⟨same_new nL, [], upd_same, rfl, fun i x v h => by simp at h⟩
      (fun j G _ ⟨sg, _⟩ => (Or.inl (rds sg ha))) (fun j v G hv ⟨sg, ys, g1, g2⟩ => ?_) (fun G ⟨sg, ys, g1, g2⟩ => ?_)
    · obtain ⟨t, ht, kv⟩ := term_at kxs hv
      obtain ⟨q, u, rfl, hq, km⟩ := kv_term.mp kv
      obtain ⟨mo, ms, rfl, hmo, kms⟩ := kv_mon.mp km
      have tm := List.mem_of_getElem? ht
      have lms := K1P.keyVs_len kms
      rw [List.length_map] at lms
      refine ⟨q, _, rfl, SqT.of (sg _ _ hq), rfl, _, _, rfl, _, _, rfl, rfl, rfl, ?_⟩
      refine ⟨_, rfl, mo, rfl, ⟨ms, .inl (rds sg hmo)⟩, fun M nM => ?_⟩
      have LM : L ≠ M := ne_of_none g1 nM
      refine lc_tup (K := K) (a := mo) (xs := ms) (fun (i : Nat) (F : Hp) => Same G F ∧ ∃ ws : List V, F M = some (.lst ws) ∧ AllV (FacL M F) (t.1.take i) ws ∧ AllV (FacL L F) (t.1.take i) ws) ⟨same_new nM, [], upd_same, ⟨rfl, fun i x v h => by simp at h⟩, rfl, fun i x v h => by simp at h⟩
        (fun i F _ ⟨sf, _⟩ => (Or.inl (rds sf (rds sg hmo)))) (fun i v F hv2 ⟨sf, ws, w1, w2, w3⟩ => ?_) (fun F ⟨sf, ws, w1, w2, w3⟩ => ?_)
      · obtain ⟨k, hk, kf⟩ := keyVs_get kms hv2
        rw [List.getElem?_map] at hk
        obtain ⟨fc, hfc, rfl⟩ := Option.map_eq_some_iff.mp hk
        obtain ⟨r, rfl, hr'⟩ := kv_fac.mp kf
        refine ⟨rfl, _, rfl, r, _, rfl, .inr (SqT.of (sf _ _ (sg _ _ hr'))), fun c nc => ?_⟩
        have wl : ws.length < sizeLine := by
          have := w2.1
          rw [List.length_take] at this
          have := lM t tm
          omega
        have s3 : Same F (upd F c (.lst [.str fc.1, .int fc.2])) := same_new nc
        have hc : upd F c (.lst [.str fc.1, .int fc.2]) c = some (.lst [.str fc.1, .int fc.2]) := upd_same
        have cM : c ≠ M := Ne.symm (ne_of_none w1 nc)
        have cL : c ≠ L := Ne.symm (ne_of_none (sf _ _ g1) nc)
        have w1' := s3 _ _ w1
        generalize upd F c (.lst [.str fc.1, .int fc.2]) = F2 at s3 hc w1' ⊢
        have bM : But M F (upd F2 M (.lst (ws ++ [.ref c]))) := (But.same s3).trans But.put
        refine ⟨ws, w1', wl, fun b o e => (upd_ne (ne_of_none e nM)).trans (s3 _ _ (sf _ _ e)), ws ++ [.ref c], upd_same, ?_, ?_⟩
        · rw [take_snoc hfc]
          exact AllV.snoc (w2.mono fun f v x => x.up bM) ⟨c, rfl, (upd_ne cM).trans hc, cM⟩
        · rw [take_snoc hfc]
          refine AllV.snoc ⟨w3.1, fun i x v ex ev => ?_⟩ ⟨c, rfl, (upd_ne cM).trans hc, cL⟩
          obtain ⟨r, e, hr, rL⟩ := w3.2 i x v ex ev
          obtain ⟨r', e', _, rM⟩ := w2.2 i x v ex ev
          rw [e] at e'
          cases e'
          exact ⟨r, e, (upd_ne rM).trans (s3 _ _ hr), rL⟩
      · rw [lms, List.take_length] at w2 w3
        refine ⟨_, rfl, by show 2 ≤ sizeLine; decide, fun c nc => ?_⟩
        have s3 : Same F (upd F c (.lst [.ref M, .int t.2])) := same_new nc
        have hc : upd F c (.lst [.ref M, .int t.2]) c = some (.lst [.ref M, .int t.2]) := upd_same
        have gL : F L = some (.lst ys) := sf _ _ g1
        have cL : c ≠ L := Ne.symm (ne_of_none gL nc)
        have g1' := s3 _ _ gL
        have w1' := s3 _ _ w1
        have w3' : AllV (FacL L (upd F c (.lst [.ref M, .int t.2]))) t.1 ws := w3.mono fun f v x => x.up (But.same s3)
        have s4 := sf.trans s3
        generalize upd F c (.lst [.ref M, .int t.2]) = F2 at s3 hc w1' g1' w3' s4 ⊢
        have yl : ys.length < sizeLine := by
          have := g2.1
          rw [List.length_take] at this
          omega
        have bL : But L F2 (upd F2 L (.lst (ys ++ [.ref c]))) := But.put
        refine ⟨ys, g1', yl, fun b o e => (upd_ne (L1 e)).trans (s4 _ _ (sg _ _ e)), ys ++ [.ref c], upd_same, ?_⟩
        rw [take_snoc ht]
        exact AllV.snoc (g2.mono fun f v x => x.up ((But.same s4).trans bL)) ⟨c, M, ws, rfl, bL _ _ cL hc, bL _ _ (Ne.symm LM) w1', cL, Ne.symm LM, w3'.mono fun f v x => x.up bL⟩
    · rw [lx, List.take_length] at g2
      exact go true L G (f1.same sg) (b1.trans (But.same sg)) ⟨ys, SqL.of g1, g2.mono fun t v x => x.is⟩
end
end K3

set_option Elab.async false
set_option linter.all false
set_option maxRecDepth 100000
set_option maxHeartbeats 4000000
set_option autoImplicit false
set_option exponentiation.threshold 1000
/-! What stands while the law looks at polynomials: its tape, the table of code objects, the polynomials told so far. -/
namespace K3
open PySem L2 K1D K2P
open LamX (Tabs ExtN TabB)
/-- all but what is at p, and tables of code objects, stays -/
def Mv (p : Addr) (H G : Hp) : Prop := ∀ a o, a ≠ p → (∀ ps, o ≠ HO.tbl ps) → H a = some o → G a = some o
theorem Mv.refl {p : Addr} {H : Hp} : Mv p H H := fun _ _ _ _ e => e
theorem Mv.trans {p : Addr} {H G F : Hp} (h : Mv p H G) (g : Mv p G F) : Mv p H F := fun a o n t e => g a o n t (h a o n t e)
theorem Mv.ext {p : Addr} {H G : Hp} (x : ExtN H G) : Mv p H G := fun a o _ t e => x a o e t
theorem Mv.but {p : Addr} {H G : Hp} (b : But p H G) : Mv p H G := fun a o n _ e => b a o n e
theorem Mv.same {p : Addr} {H G : Hp} (s : Same H G) : Mv p H G := fun a o _ _ e => s a o e
theorem Mv.lst {p l a : Addr} {H G : Hp} {xs : List V} (m : Mv p H G) (t : TapeL H p l) (h : H a = some (.lst xs)) : G a = some (.lst xs) := m a _ (t.lst h) (fun ps z => nomatch z) h
theorem Mv.tups {K : PySem.W.Frag} {p l : Addr} {H G : Hp} (m : Mv p H G) (t : TapeL H p l) : Tups K H G := by
  obtain ⟨kvs, hp⟩ := t.at
  exact ⟨fun a xs e => m a _ (fun z => by rw [z, hp] at e; cases e) (fun ps z => nomatch z) e, fun a o xs e => m a _ (fun z => by rw [z, hp] at e; cases e) (fun ps z => nomatch z) e⟩
theorem Mv.keeps {K : PySem.W.Frag} {p l : Addr} {H G : Hp} (m : Mv p H G) (t : TapeL H p l) : Keeps K H G := fun b a xs h => by
  obtain ⟨kvs, hp⟩ := t.at
  have go : ∀ o, H a = some o → (∀ z, o ≠ HO.dK z) → (∀ ps, o ≠ HO.tbl ps) → G a = some o := fun o e n n2 => m a o (fun z => by rw [z, hp] at e; cases e; exact n _ rfl) n2 e
  cases b
  · rcases h with (h | ⟨o, h⟩) | h
    · exact .inl (.inl (go _ h (fun z q => nomatch q) fun z q => nomatch q))
    · exact .inl (.inr ⟨o, go _ h (fun z q => nomatch q) fun z q => nomatch q⟩)
    · exact .inr h
  · rcases h with (h | ⟨o, h⟩) | h
    · exact .inl (.inl (go _ h (fun z q => nomatch q) fun z q => nomatch q))
    · exact .inl (.inr ⟨o, go _ h (fun z q => nomatch q) fun z q => nomatch q⟩)
    · exact .inr h
theorem tabs_but {T : List (Addr × Str)} {H G : Hp} {p l : Addr} (t : Tabs T H) (f : TapeL H p l) (b : But p H G) : Tabs T G := fun q hq => by
  obtain ⟨xs, hp⟩ := f.at
  obtain ⟨ps, h1, h2, h3⟩ := t q hq
  refine ⟨ps, b _ _ (fun z => by rw [z, hp] at h1; cases h1) h1, h2, fun pos cv hc => ?_⟩
  obtain ⟨c, e1, e2⟩ := h3 pos cv hc
  exact ⟨c, e1, b _ _ (fun z => by rw [z, hp] at e2; unfold LamX.CodeO at e2; cases e2) e2⟩
theorem TapeL.ext {H G : Hp} {p l : Addr} (f : TapeL H p l) (x : ExtN H G) : TapeL G p l := by
  obtain ⟨ns, a, v, d, m, s, h1, h2, h3⟩ := f
  exact ⟨ns, a, v, d, m, s, x _ _ h1 (fun ps z => nomatch z), x _ _ h2 (fun ps z => nomatch z), h3⟩
structure Env (K : PySem.W.Frag) (Pt p l : Addr) (H G : Hp) (ps : List (Addr × Poly)) : Prop where
  mv : Mv p H G
  tb : Tabs (lamT Pt) G
  tp : TapeL G p l
  ks : ∀ x ∈ ps, KeyV K G (K2P.polyK x.2) (.ref x.1)
/-- names, bits of the law's polynomials -/
structure NamesL (L : List Str) : Prop where
  nd : L.Nodup
  l6 : L.length ≤ 6
  nm : ∀ x ∈ L, NmOk x
theorem Sg.names {L : List Str} (h : Sg L) : NamesL L := ⟨h.nd, h.l6, h.nm⟩
theorem NamesL.ok {L : List Str} (h : NamesL L) : NamesOk L := ⟨by have := h.l6; omega, fun x hx => by have := (h.nm x hx).1; rw [sizeLine_eq]; omega⟩
section
variable {K : PySem.W.Frag} {Pt p l : Addr} {H G F : Hp} {ps : List (Addr × Poly)}
theorem Env.ext (e : Env K Pt p l H G ps) (x : ExtN G F) (t : Tabs (lamT Pt) F) : Env K Pt p l H F ps := ⟨e.mv.trans (.ext x), t, e.tp.ext x, fun y hy => keyV_ext x (e.ks y hy)⟩
theorem Env.same (e : Env K Pt p l H G ps) (s : Same G F) : Env K Pt p l H F ps := e.ext (ExtN.of s) (e.tb.ext s)
theorem Env.but (e : Env K Pt p l H G ps) (b : But p G F) (t : TapeL F p l) : Env K Pt p l H F ps := ⟨e.mv.trans (.but b), tabs_but e.tb e.tp b, t, fun y hy => KeyV.up (e.tp.tups b) _ _ (e.ks y hy)⟩
theorem Env.add {a : Addr} {r : Poly} (e : Env K Pt p l H G ps) (k : KeyV K G (K2P.polyK r) (.ref a)) : Env K Pt p l H G ((a, r) :: ps) := ⟨e.mv, e.tb, e.tp, fun y hy => by
  rcases List.mem_cons.mp hy with q | q
  · rw [q]; exact k
  · exact e.ks y q⟩
theorem Env.sub {qs : List (Addr × Poly)} (e : Env K Pt p l H G ps) (h : ∀ x ∈ qs, x ∈ ps) : Env K Pt p l H G qs := ⟨e.mv, e.tb, e.tp, fun y hy => e.ks y (h y hy)⟩
theorem Env.moved (e : Env K Pt p l H G ps) (m : Mv p G F) (t : Tabs (lamT Pt) F) (f : TapeL F p l) : Env K Pt p l H F ps := ⟨e.mv.trans m, t, f, fun y hy => KeyV.up (m.tups e.tp) _ _ (e.ks y hy)⟩
theorem Env.k {a : Addr} {r : Poly} (e : Env K Pt p l H G ps) (m : (a, r) ∈ ps) : KeyV K G (K2P.polyK r) (.ref a) := e.ks _ m
theorem Env.pb {a : Addr} {r : Poly} (e : Env K Pt p l H G ps) (m : (a, r) ∈ ps) : PolyB false K G r a := polyB_of (e.ks _ m)
theorem Env.emp {t : Addr} (e : Env K Pt p l H G ps) (n : G t = none) : Env K Pt p l H (upd G t (.tup [])) ((t, []) :: ps) := (e.same (same_new n)).add (.tup upd_same .nil)
end
/-- the rooms of a polynomial -/
structure Fit (L : List Str) (e b n : Nat) (r : Poly) : Prop where
  t : Tame L e b r
  len : r.length ≤ n
theorem Fit.nil {L : List Str} : Fit L 0 1 0 [] := ⟨⟨⟨(fun t h => (nomatch h)), .nil⟩, (fun t h => nomatch h), (fun t h => nomatch h), Nat.zero_le _⟩, Nat.le_refl _⟩
theorem Fit.fits {L : List Str} {e b n : Nat} {r : Poly} (h : Fit L e b n r) (n2 : n ≤ 2000) (b6 : b ≤ 600) : FitsC (r.map (·.2)) := h.t.fits (Nat.le_trans h.len n2) b6
theorem fit_const {L : List Str} {k : Int} {b : Nat} (h : k.natAbs < 2 ^ b) : Fit L 0 b 1 (constP k) := ⟨constP_tame h, by unfold constP; split; exact Nat.zero_le _; exact Nat.le_refl _⟩
theorem fit_neg {L : List Str} {e b n : Nat} {r : Poly} (h : Fit L e b n r) : Fit L e b n (negP r) := ⟨negP_tame h.t, by rw [negP_len]; exact h.len⟩
section
variable {L : List Str} {e1 e2 b1 b2 n1 n2 : Nat} {p q : Poly}
theorem fit_sum (f : Fit L e1 b1 n1 p) (g : Fit L e1 b1 n2 q) (h : n1 + n2 ≤ 4000) : ∃ r, IsSum p q r ∧ Fit L e1 (b1 + 1) (n1 + n2) r := by
  obtain ⟨r, h1, h2, h3⟩ := exists_sum f.t g.t (by have := f.len; have := g.len; omega)
  exact ⟨r, h1, h2, by have := f.len; have := g.len; omega⟩
theorem fit_diff (f : Fit L e1 b1 n1 p) (g : Fit L e1 b1 n2 q) (h : n1 + n2 ≤ 4000) : ∃ r, IsDiff p q r ∧ Fit L e1 (b1 + 1) (n1 + n2) r := by
  obtain ⟨r, h1, h2, h3⟩ := exists_diff f.t g.t (by have := f.len; have := g.len; omega)
  exact ⟨r, h1, h2, by have := f.len; have := g.len; omega⟩
theorem fit_prod (nd : L.Nodup) (f : Fit L e1 b1 n1 p) (g : Fit L e2 b2 n2 q) (h : n1 * n2 ≤ 4000) : ∃ r, IsProd p q r ∧ Fit L (e1 + e2) (b1 + b2 + 12) (n1 * n2) r := by
  have m := Nat.mul_le_mul f.len g.len
  obtain ⟨r, h1, h2, h3⟩ := exists_prod nd f.t g.t (Nat.le_trans m h)
  exact ⟨r, h1, h2, Nat.le_trans h3 m⟩
theorem fit_pow (nd : L.Nodup) (f : Fit L e1 b1 n1 p) (a1 : 1 ≤ n1) (n : Nat) (h : n1 ^ n ≤ 4000) : ∃ r, IsPow p n r ∧ Fit L (e1 * n) ((b1 + 12) * n + 1) (n1 ^ n) r := by
  obtain ⟨r, h1, h2, h3⟩ := exists_power nd f.t f.len a1 n h
  exact ⟨r, h1, h2, h3⟩
theorem Fit.mono {e b n : Nat} (f : Fit L e1 b1 n1 p) (le : e1 ≤ e) (lb : b1 ≤ b) (ln : n1 ≤ n) : Fit L e b n p := ⟨f.t.mono le lb, Nat.le_trans f.len ln⟩
theorem mids_of (nd : L.Nodup) (f : Fit L e1 b1 n1 p) (a1 : 1 ≤ n1) (n : Nat) (h : n1 ^ n ≤ 4000) (hb : (b1 + 12) * n + 1 ≤ 600) : MidsOk p n 600 := fun i hi => by
  have le : n1 ^ i ≤ n1 ^ n := Nat.pow_le_pow_right a1 (Nat.le_of_lt hi)
  obtain ⟨r, h1, h2⟩ := fit_pow nd f a1 i (Nat.le_trans le h)
  have lb : (b1 + 12) * i ≤ (b1 + 12) * n := Nat.mul_le_mul_left _ (Nat.le_of_lt hi)
  exact ⟨r, h1, Nat.le_trans h2.len (Nat.le_trans le h), fun t ht => Nat.lt_of_lt_of_le (h2.t.bits t ht) (Nat.pow_le_pow_right (by decide) (by omega))⟩
end
/-! ### calls -/
def spConstP (K : PySem.W.Frag) : Sp := fun vs H Q _ => ∃ k : Int, vs = [.int k] ∧ (k.natAbs : Int) < K1P.tooGreat ∧ ∀ (a : Addr) (G : Hp), Same H G → KeyV K G (K2P.polyK (constP k)) (.ref a) → Q (.ref a) G
theorem ok_constP {P : Program} {w : World} {K : PySem.W.Frag} {mg : Str → Option Value} {base : Heap} {f : Addr} {fd : FuncData} (G : FnOk P w K mg base CX0 2 f fd ["k"] (K1P.spConst K)) : FnOk P w K mg base CX0 2 f fd ["k"] (spConstP K) :=
  fn_imp G fun vs H Q E ⟨k, ev, lt, go⟩ => ⟨k, ev, lt, fun a G s h => go a G s (by rw [← constP_ni] at h; exact polyV_iff h)⟩
section
variable {K : PySem.W.Frag} {Pt p l : Addr} {H G : Hp} {ps : List (Addr × Poly)} {L : List Str} {x y : Addr} {A B R : Poly} {e1 e2 b1 b2 n1 n2 : Nat} {bx bw : Bool}
theorem Env.sumG (_ : Env K Pt p l H G ps) (nm : NamesL L) (kx : PolyB bx K G A x) (ky : PolyB bw K G B y) (fx : Fit L e1 b1 n1 A) (fy : Fit L e2 b2 n2 B) : SumG K G x y A B L e1 e2 b1 b2 bx bw := ⟨kx, ky, nm.ok, fx.t, fy.t⟩
theorem Env.mulG (e : Env K Pt p l H G ps) (nm : NamesL L) (kx : PolyB bx K G A x) (ky : PolyB bw K G B y) (fx : Fit L e1 b1 n1 A) (fy : Fit L e2 b2 n2 B) (h : (e1 ≤ 1000 ∧ e2 ≤ 1000) ∧ (0 < b1 ∧ 0 < b2) ∧ b1 + b2 ≤ 10000) : MulG K Pt G x y A B L e1 e2 b1 b2 60 bx bw := by
  obtain ⟨⟨h1, h2⟩, ⟨h3, h4⟩, h5⟩ := h
  exact ⟨e.tb, kx, ky, nm.ok, fx.t, fy.t, by omega, by decide, by decide, by have := nm.l6; omega, h3, h4, by omega⟩
theorem Env.powG (n : Nat) (e : Env K Pt p l H G ps) (nm : NamesL L) (kx : PolyB bx K G A x) (fx : Fit L e1 b1 n1 A) (h : (e1 ≤ 100 ∧ n ≤ 100) ∧ 0 < b1 ∧ b1 ≤ 600) : PowG K Pt G x A L n e1 b1 600 60 bx := by
  obtain ⟨⟨h1, h2⟩, h3, h4⟩ := h
  have m1 : e1 * n ≤ 100 * 100 := Nat.mul_le_mul h1 h2
  exact ⟨e.tb, kx, nm.ok, fx.t, by omega, by omega, by omega, by decide, by decide, by have := nm.l6; omega, h3, by decide, by omega⟩
theorem Fit.sl (f : Fit L e1 b1 n1 A) : A.length < sizeLine := by have := f.t.len; rw [sizeLine_eq]; omega
end
end K3

set_option Elab.async false
set_option linter.all false
set_option maxRecDepth 100000
set_option maxHeartbeats 4000000
set_option autoImplicit false
/-! Polynomials at fractions; lowest terms. Maths. -/
namespace K2P
open PySem L2 K1D K1P
def rM (s : Str → Rat) : Mon → Rat
  | [] => 1
  | f :: m => s f.1 ^ f.2.toNat * rM s m
def rP (s : Str → Rat) : Poly → Rat
  | [] => 0
  | t :: p => (t.2 : Rat) * rM s t.1 + rP s p
def rX (s : Str → Rat) : List Str → Expo → Rat
  | [], _ => 1
  | x :: ns, f => s x ^ f x * rX s ns f
theorem rX_add (s : Str → Rat) (f g : Expo) : ∀ ns, rX s ns (addE f g) = rX s ns f * rX s ns g
  | [] => by show (1 : Rat) = 1 * 1; grind
  | x :: ns => by
    show s x ^ (f x + g x) * rX s ns (addE f g) = s x ^ f x * rX s ns f * (s x ^ g x * rX s ns g)
    rw [rX_add s f g ns]
    grind
theorem rX_zero (s : Str → Rat) {f : Expo} : ∀ {ns : List Str}, (∀ x ∈ ns, f x = 0) → rX s ns f = 1
  | [], _ => rfl
  | x :: ns, h => by
    show s x ^ f x * rX s ns f = 1
    rw [h x List.mem_cons_self, rX_zero s fun y hy => h y (List.mem_cons_of_mem _ hy)]
    grind
theorem rX_one (s : Str → Rat) (y : Str) (e : Nat) : ∀ {ns : List Str}, ns.Nodup → y ∈ ns → rX s ns (fun n => if y = n then e else 0) = s y ^ e
  | [], _, h => nomatch h
  | x :: ns, nd, h => by
    have nd' := List.nodup_cons.mp nd
    show s x ^ (if y = x then e else 0) * rX s ns _ = _
    by_cases q : y = x
    · subst q
      rw [if_pos rfl, rX_zero s fun z hz => if_neg fun e => nd'.1 (by rw [e]; exact hz)]
      grind
    · rw [if_neg q, rX_one s y e nd'.2 ((List.mem_cons.mp h).resolve_left q)]
      grind
theorem rM_ex (s : Str → Rat) {ns : List Str} (nd : ns.Nodup) : ∀ {m : Mon}, (∀ f ∈ m, f.1 ∈ ns) → rM s m = rX s ns (exM m)
  | [], _ => (rX_zero s fun x _ => rfl).symm
  | f :: m, h => by
    have e : exM (f :: m) = addE (fun n => if f.1 = n then f.2.toNat else 0) (exM m) := rfl
    rw [e, rX_add, rX_one s f.1 _ nd (h f List.mem_cons_self), ← rM_ex s nd fun x hx => h x (List.mem_cons_of_mem _ hx)]
    rfl
def rL (v : Expo → Rat) : List (Expo × Int) → Rat
  | [] => 0
  | x :: l => (x.2 : Rat) * v x.1 + rL v l
theorem rL_app (v : Expo → Rat) : ∀ a b, rL v (a ++ b) = rL v a + rL v b
  | [], b => by show _ = (0 : Rat) + _; grind
  | x :: a, b => by
    show (x.2 : Rat) * v x.1 + rL v (a ++ b) = (x.2 : Rat) * v x.1 + rL v a + rL v b
    rw [rL_app v a b]
    grind
theorem rL_filter (v : Expo → Rat) (g : Expo) : ∀ l : List (Expo × Int), rL v l = (tot l g : Rat) * v g + rL v (l.filter fun x => decide (x.1 ≠ g))
  | [] => by show (0 : Rat) = ((0 : Int) : Rat) * v g + 0; simp; grind
  | x :: l => by
    have ih := rL_filter v g l
    show (x.2 : Rat) * v x.1 + rL v l = (((if x.1 = g then x.2 else 0) + tot l g : Int) : Rat) * v g + _
    rw [List.filter_cons, Rat.intCast_add]
    by_cases h : x.1 = g
    · rw [if_pos h, if_neg (by simp [h]), ih, h]
      grind
    · rw [if_neg h, if_pos (by simp [h])]
      show _ = _ + ((x.2 : Rat) * v x.1 + rL v _)
      simp only [Rat.intCast_zero]
      grind
theorem rL_zero (v : Expo → Rat) : ∀ (n : Nat) (l : List (Expo × Int)), l.length ≤ n → (∀ f, tot l f = 0) → rL v l = 0
  | _, [], _, _ => rfl
  | 0, x :: l, h, _ => by cases h
  | n + 1, x :: l, h, z => by
    rw [rL_filter v x.1, z]
    have ih := rL_zero v n ((x :: l).filter fun y => decide (y.1 ≠ x.1)) ?_ fun f => ?_
    · rw [ih]
      simp only [Rat.intCast_zero]
      grind
    · rw [List.filter_cons, if_neg (by simp)]
      have := List.length_filter_le (fun y : Expo × Int => decide (y.1 ≠ x.1)) l
      rw [List.length_cons] at h
      omega
    · by_cases q : f = x.1
      · rw [q, tot_filter_at]
      · rw [tot_filter _ _ q, z]
theorem rL_negL (v : Expo → Rat) : ∀ l, rL v (negL l) = - rL v l
  | [] => by show (0 : Rat) = -0; grind
  | x :: l => by
    show ((- x.2 : Int) : Rat) * v x.1 + rL v (negL l) = - ((x.2 : Rat) * v x.1 + rL v l)
    rw [rL_negL v l, Rat.intCast_neg]
    grind
theorem rL_ext (v : Expo → Rat) {a b : List (Expo × Int)} (h : ∀ f, tot a f = tot b f) : rL v a = rL v b := by
  have := rL_zero v _ (a ++ negL b) (Nat.le_refl _) fun f => by rw [tot_app, tot_negL, h]; omega
  rw [rL_app, rL_negL] at this
  grind
theorem rL_row (v : Expo → Rat) (mul : ∀ f g, v (addE f g) = v f * v g) (x : Expo × Int) : ∀ q, rL v (rowL addE x q) = (x.2 : Rat) * v x.1 * rL v q
  | [] => by show (0 : Rat) = _ * 0; grind
  | y :: q => by
    show ((x.2 * y.2 : Int) : Rat) * v (addE x.1 y.1) + rL v (rowL addE x q) = (x.2 : Rat) * v x.1 * ((y.2 : Rat) * v y.1 + rL v q)
    rw [rL_row v mul x q, mul, Rat.intCast_mul]
    grind
theorem rL_prod (v : Expo → Rat) (mul : ∀ f g, v (addE f g) = v f * v g) (q : List (Expo × Int)) : ∀ p, rL v (prodE p q) = rL v p * rL v q
  | [] => by show (0 : Rat) = 0 * _; grind
  | x :: p => by
    show rL v (prodL addE (x :: p) q) = _
    rw [prodL_cons, rL_app, rL_row v mul]
    show _ + rL v (prodE p q) = ((x.2 : Rat) * v x.1 + rL v p) * rL v q
    rw [rL_prod v mul q p]
    grind
theorem rP_lift (s : Str → Rat) {ns : List Str} (nd : ns.Nodup) : ∀ {p : Poly}, (∀ t ∈ p, ∀ f ∈ t.1, f.1 ∈ ns) → rP s p = rL (rX s ns) (liftP p)
  | [], _ => rfl
  | t :: p, h => by
    show (t.2 : Rat) * rM s t.1 + rP s p = (t.2 : Rat) * rX s ns (exM t.1) + rL (rX s ns) (liftP p)
    rw [rM_ex s nd (h t List.mem_cons_self), rP_lift s nd fun u hu => h u (List.mem_cons_of_mem _ hu)]
section
variable {L : List Str} {e1 e2 e3 b1 b2 b3 : Nat} {p q r : Poly} (s : Str → Rat) (nd : L.Nodup) (tp : Tame L e1 b1 p) (tq : Tame L e2 b2 q) (tr : Tame L e3 b3 r)
include nd tp tq tr
theorem rv_sum (h : IsSum p q r) : rP s r = rP s p + rP s q := by
  rw [rP_lift s nd tr.within.mem, rP_lift s nd tp.within.mem, rP_lift s nd tq.within.mem, ← rL_app]
  exact rL_ext _ h.app
theorem rv_prod (h : IsProd p q r) : rP s r = rP s p * rP s q := by
  rw [rP_lift s nd tr.within.mem, rP_lift s nd tp.within.mem, rP_lift s nd tq.within.mem, ← rL_prod _ (fun f g => rX_add s f g L)]
  exact rL_ext _ h.sem
end
/-! ### over one common bottom -/
theorem evX_cast (s : Str → Int) (f : Expo) : ∀ ns, ((evX s ns f : Int) : Rat) = rX (fun x => (s x : Rat)) ns f
  | [] => rfl
  | x :: ns => by
    show ((s x ^ f x * evX s ns f : Int) : Rat) = (s x : Rat) ^ f x * rX _ ns f
    rw [Rat.intCast_mul, evX_cast s f ns, Rat.intCast_pow]
theorem evX_pos {d : Str → Int} (f : Expo) : ∀ {ns : List Str}, (∀ x ∈ ns, 0 < d x) → 0 < evX d ns f
  | [], _ => (show (0 : Int) < 1 by decide)
  | x :: ns, h => Int.mul_pos (Int.pow_pos (h x List.mem_cons_self)) (evX_pos f fun y hy => h y (List.mem_cons_of_mem _ hy))
theorem div_pow_mul {a b : Rat} (h : b ≠ 0) : ∀ n : Nat, (a / b) ^ n * b ^ n = a ^ n
  | 0 => by grind
  | n + 1 => by
    have ih := div_pow_mul (a := a) h n
    rw [Rat.pow_succ, Rat.pow_succ, Rat.pow_succ, ← ih]
    grind
/-- n over d -/
def frac (n d : Str → Int) (x : Str) : Rat := (n x : Rat) / (d x : Rat)
theorem rX_frac {n d : Str → Int} (f : Expo) : ∀ {ns : List Str}, (∀ x ∈ ns, 0 < d x) → rX (frac n d) ns f * ((evX d ns f : Int) : Rat) = ((evX n ns f : Int) : Rat)
  | [], _ => by show (1 : Rat) * ((1 : Int) : Rat) = ((1 : Int) : Rat); grind
  | x :: ns, h => by
    have ih := rX_frac (n := n) f (ns := ns) fun y hy => h y (List.mem_cons_of_mem _ hy)
    have d0 : ((d x : Int) : Rat) ≠ 0 := by
      have := h x List.mem_cons_self
      intro z
      have : d x = 0 := by exact_mod_cast z
      omega
    show frac n d x ^ f x * rX (frac n d) ns f * ((d x ^ f x * evX d ns f : Int) : Rat) = ((n x ^ f x * evX n ns f : Int) : Rat)
    rw [Rat.intCast_mul, Rat.intCast_mul, ← ih, Rat.intCast_pow, Rat.intCast_pow]
    have e : frac n d x ^ f x * (d x : Rat) ^ f x = (n x : Rat) ^ f x := by
      exact div_pow_mul d0 _
    rw [← e]
    grind
/-- f within h: what is left -/
def gapE (h f : Expo) : Expo := fun x => h x - f x
theorem evX_gap (d : Str → Int) {h f : Expo} : ∀ {ns : List Str}, (∀ x ∈ ns, f x ≤ h x) → evX d ns f * evX d ns (gapE h f) = evX d ns h
  | [], _ => rfl
  | x :: ns, q => by
    have ih := evX_gap d (ns := ns) fun y hy => q y (List.mem_cons_of_mem _ hy)
    show d x ^ f x * evX d ns f * (d x ^ (h x - f x) * evX d ns (gapE h f)) = d x ^ h x * evX d ns h
    rw [← ih]
    have e : d x ^ h x = d x ^ f x * d x ^ (h x - f x) := by
      rw [← Int.pow_add]
      congr 1
      have := q x List.mem_cons_self
      omega
    rw [e]
    grind
/-- the sum over the common bottom -/
def overP (n d : Str → Int) (ns : List Str) (h : Expo) : Poly → Int
  | [] => 0
  | t :: p => t.2 * evM n t.1 * evX d ns (gapE h (exM t.1)) + overP n d ns h p
theorem over_rat {n d : Str → Int} {ns : List Str} {h : Expo} (nd : ns.Nodup) (dp : ∀ x ∈ ns, 0 < d x) : ∀ {p : Poly}, (∀ t ∈ p, ∀ f ∈ t.1, f.1 ∈ ns) → (∀ t ∈ p, ∀ x ∈ ns, exM t.1 x ≤ h x) → ((overP n d ns h p : Int) : Rat) = ((evX d ns h : Int) : Rat) * rP (frac n d) p
  | [], _, _ => by show ((0 : Int) : Rat) = _ * 0; grind
  | t :: p, hm, hh => by
    have ih := over_rat (n := n) nd dp (p := p) (fun u hu => hm u (List.mem_cons_of_mem _ hu)) fun u hu => hh u (List.mem_cons_of_mem _ hu)
    show ((t.2 * evM n t.1 * evX d ns (gapE h (exM t.1)) + overP n d ns h p : Int) : Rat) = _ * ((t.2 : Rat) * rM (frac n d) t.1 + rP (frac n d) p)
    rw [Rat.intCast_add, ih, Rat.intCast_mul, Rat.intCast_mul, evM_ex n nd (hm t List.mem_cons_self), rM_ex _ nd (hm t List.mem_cons_self)]
    have h1 := rX_frac (n := n) (exM t.1) dp
    have h2 : ((evX d ns h : Int) : Rat) = ((evX d ns (exM t.1) : Int) : Rat) * ((evX d ns (gapE h (exM t.1)) : Int) : Rat) := by
      rw [← Rat.intCast_mul, evX_gap d (hh t List.mem_cons_self)]
    rw [h2, ← h1]
    grind
/-! ### lowest terms -/
theorem mk_of {T : Int} {W : Nat} {q : Rat} (hW : W ≠ 0) (h : (T : Rat) = (W : Rat) * q) : mkRat T W = q := by
  rw [Rat.mkRat_eq_div, h]
  have : (W : Rat) ≠ 0 := by
    intro z
    have : W = 0 := by exact_mod_cast z
    exact hW this
  grind
theorem mk_low {T : Int} {W : Nat} (hW : W ≠ 0) : (mkRat T W).num = T / (T.natAbs.gcd W : Nat) ∧ (mkRat T W).den = W / T.natAbs.gcd W := by
  rw [Rat.mkRat_def, dif_neg hW, Rat.normalize_eq]
  exact ⟨rfl, rfl⟩
theorem mk_num_le (T : Int) {W : Nat} (hW : W ≠ 0) : (mkRat T W).num.natAbs ≤ T.natAbs := by
  rw [(mk_low hW).1]
  exact Int.natAbs_ediv_le_natAbs _ _
theorem mk_den_le (T : Int) {W : Nat} (hW : W ≠ 0) : (mkRat T W).den ≤ W := by
  rw [(mk_low hW).2]
  exact Nat.div_le_self _ _
theorem frac_self (q : Rat) : ((q.num : Int) : Rat) / ((q.den : Int) : Rat) = q := by
  have := Rat.mkRat_self q
  rw [Rat.mkRat_eq_div] at this
  exact_mod_cast this
theorem mk_sum (a b : Rat) : mkRat (a.num * b.den + b.num * a.den) (a.den * b.den) = a + b := by
  rw [← Rat.mkRat_add_mkRat _ _ a.den_nz b.den_nz, Rat.mkRat_self, Rat.mkRat_self]
theorem mk_prod (a b : Rat) : mkRat (a.num * b.num) (a.den * b.den) = a * b := by
  rw [← Rat.mkRat_mul_mkRat, Rat.mkRat_self, Rat.mkRat_self]
end K2P

set_option Elab.async false
set_option linter.all false
set_option maxRecDepth 100000
set_option maxHeartbeats 8000000
/-! NothingThere: raised. -/
namespace K5
open PySem L2 K1D K1P
/-! ### the error -/
def spIniT (K : PySem.W.Frag) (C : Addr) : Sp := fun vs H Q _ => ∃ (a : Addr) (y : Str), vs = [.ref a, .str y] ∧ y.length ≤ 1000 ∧ ErrC K C ∧ PySem.W.findIn K (.ref C) "word" = some none ∧ H a = some (exo a C none) ∧
  ∀ dx, H dx = none → dx ≠ a → Q .non (upd (upd H dx (exd dx [("word", .str y)])) a (exo a C (some dx)))
abbrev sThere : Stmt := inClass (K1P.top 4) 0
section
variable {P : Program} {w : World} {K : PySem.W.Frag} {mg : Str → Option Value} {base : Heap} {B : Addr}
theorem fitT {y : Str} (h : y.length ≤ 1000) : (Str.empty ++ ("nothing there: " : Str) ++ y).length ≤ sizeLine := by
  have : (Str.empty ++ ("nothing there: " : Str)).length ≤ 1000 := by decide +kernel
  rw [strLen_append, sizeLine_eq]
  omega
theorem scThere : FnScope ["self", "word"] ["self", "word"] (defScope sThere) := ⟨rfl, rfl, rfl, by decide +kernel, rfl, by decide +kernel, by decide +kernel⟩
theorem iniThere {f C : Addr} {fd : FuncData} (F : Fun K "__init__" "NothingThere.__init__" sThere f fd) (T : BaseC K B) (gB : mg "FigureError" = some (.ref B)) : FnOk P w K mg base CX0 1 f fd ["self", "word"] (spIniT K C) := by
  refine F.ok scThere (fun vs H Q E h => ?_) (fun cdv A outer s H vs Q E hr h => ?_)
  · obtain ⟨a, y, rfl, _⟩ := h
    rfl
  · obtain ⟨a, y, rfl, h, TC, no, ha, go⟩ := h
    refine ⟨_, pss_cons (ps_expr (pe_base T rfl gB (pa_cons (pv 0) (pa_cons (pe_joined (.cons pe_str (.cons (pe_fmt (pv 1)) .nil))) pa_nil)))) (pss_one (ps_field (pv 0) (pv 1))), ?_⟩
    refine ⟨_, rfl, _, rfl, by decide +kernel, _, rfl, ?_⟩
    exact .inl ⟨y, rfl, by rw [sizeLine_eq]; omega, _, rfl, fitT h, a, C, _, rfl, by show 1 ≤ 1000; decide, TC, ha, _, rfl, _, rfl, a, C, rfl, TC, no, ha, fun dx n ne => go dx n ne⟩
end
/-- what the written part says of the class -/
structure ThereTxt (P : Program) (w : World) (K : PySem.W.Frag) (mg : Str → Option Value) (base : Heap) (B C fI : Addr) (dI : FuncData) : Prop where
  gC : mg "NothingThere" = some (.ref C)
  err : ErrC K C
  iC : PySem.W.findIn K (.ref C) "__init__" = some (some (.ref fI))
  tI : PySem.W.typeIn K (.ref fI) = some (.type "function")
  no : PySem.W.findIn K (.ref C) "word" = some none
  bd : Binds K dI ["self", "word"] []
  ini : FnOk P w K mg base CX0 1 fI dI ["self", "word"] (spIniT K C)
  gB : mg "FigureError" = some (.ref B)
  exm : PySem.W.exmOne K (.ref C) (.ref C) = some true
  kit : PySem.W.kitOne K (.ref C) (.ref B) = some true
  ask : AskC K C
  xf : XfC K C
section
variable {P : Program} {w : World} {K : PySem.W.Frag} {mg : Str → Option Value} {base : Heap} {B C fI : Addr} {dI : FuncData}
theorem err_readT {H : Hp} {y : Str} {Q : XK} {σ : L2.St} (T : ThereTxt P w K mg base B C fI dI) (ly : y.length ≤ 1000) (go : ∀ d, H d = none → Q (.ref C) (some d) (upd H d (.xd [("word", .str y)]))) :
    tErr C (spIniT K C) (tCons (tC (.str y)) tNil) σ H Q := by
  refine ⟨by show 1 ≤ 1000; decide, fun a na => ⟨a, y, rfl, ly, T.err, T.no, upd_same, fun dx nd ne => ⟨rfl, dx, _, upd_same, (upd_ne ne).trans upd_same, ?_, ?_⟩⟩⟩
  · rw [upd_ne ne] at nd
    exact nd
  · rw [heap_of na ne]
    rw [upd_ne ne] at nd
    exact go dx nd
end
end K5

set_option Elab.async false
set_option linter.all false
set_option maxRecDepth 100000
set_option maxHeartbeats 4000000
/-! name = {k: v for ..} on one line (keys ints or texts). Speaks of no program. -/
namespace L2
open PySem PySem.Spec PyProof.Rows
section
variable {X : Cx}
theorem ps_setDc {i : Nat} {y : Str} {py : Pos} {kx vx tg iter : Expr} {ifs : List Expr} {scope : Scope} {own : List (Str × Nat)} {pos sp : Pos} {wi : TI} {g : TG} {tt : TT} {tk tv : TE} (hc : X.calm = true) (hN : X.N.Nodup) (hy : X.N[i]? = some y) (loc : X.env.scope.names.lookup y = some .local)
    (sw : swapsWith (.DictComp kx vx [⟨tg, iter, ifs, 0⟩] scope pos) (some (.Name y py)) sp.line X.env = pure true) (hi : PI X tg iter wi) (ok : BlkOk X.N X.env.scope scope own)
    (hg : ∀ (s : Shared) (H : Hp) (C : Addr) (cl : List (Str × Addr)) (fp : List Addr), PG (X.blk s H scope (compEnvC scope cl C X.env) fp) tg g)
    (ht : ∀ (s : Shared) (H : Hp) (C : Addr) (cl : List (Str × Addr)) (fp : List Addr), PTs (X.blk s H scope (compEnvC scope cl C X.env) fp) ifs tt)
    (hk : ∀ (s : Shared) (H : Hp) (C : Addr) (cl : List (Str × Addr)) (fp : List Addr), PE (X.blk s H scope (compEnvC scope cl C X.env) fp) kx tk)
    (hv : ∀ (s : Shared) (H : Hp) (C : Addr) (cl : List (Str × Addr)) (fp : List Addr), PE (X.blk s H scope (compEnvC scope cl C X.env) fp) vx tv) (hs : ∀ x, foldedSetIterable iter X.env x = pure x := by intro _; rfl) :
    PS X (.Assign [.Name y py] (.DictComp kx vx [⟨tg, iter, ifs, 0⟩] scope pos) sp) (tAsg (tDc wi g tt tk tv (own.map (·.2))) (gName i)) := ⟨fun pn s τ H D I h => by
  rw [exec_Assign_Name_used _ _ _ _ sw]
  refine wpAny_bind (wpAny_standAt (wpAny_bind ?_))
  have h' : tDc wi g tt tk tv (own.map (·.2)) τ H (fun x G => gName i x τ G D.nx) := h
  show wpAny _ X.A (do let _ ← comprehension (.DictComp kx vx [⟨tg, iter, ifs, 0⟩] scope pos) scope X.env (firstIterPos [⟨tg, iter, ifs, 0⟩] pos) newDict false (eval iter X.env) (some (assign (.Name y py) X.env))) _ _ s
  refine wpAny_bind (thn (dc_core (Qf := fun _ s' => SP X pn D .next s') hc hN I hi ok hg ht hk hv hs h' fun L C s' m G I' q hn ⟨f0, f1, f2, f3, f4, f5⟩ => ?_) fun _ s' hq => wpAny_pure (wpAny_pure hq))
  show wpAny _ _ (assign (.Name y py) X.env (.ref L)) _ _ _
  refine wpAny_assign_Name (store_ok2 (v := V.ref L) I' hN hy (.inl loc) rfl (fun s2 I2 ⟨a, same, ha⟩ => ?_) (.inr loc))
  have ne : C ≠ a := ha.elim (fun z => by rw [z]; exact f1) fun z q => f4 y a z q.symm
  exact ⟨m, hn.sameBut same ne, fun h3 sm3 => ⟨_, G, I2.turned (t' := s2.toks) (fun b o hb e => (sm3.2 b hb).trans e) f0 f1 f3 f4 f5, q⟩⟩⟩
end
end L2

set_option Elab.async false
set_option linter.all false
set_option maxRecDepth 100000
set_option maxHeartbeats 8000000
set_option autoImplicit false
set_option pp.maxSteps 600
set_option exponentiation.threshold 1000
/-! figurehold.ratios.lowest, figurehold.polys._powers, value. -/
namespace K5
open PySem L2 K1D K2P
open K1P (Raises okN)
abbrev sLow : Stmt := K2P.top 6
abbrev sPowers : Stmt := K2P.top 30
abbrev sVal : Stmt := K2P.top 25
/-! ### a list or a tuple, each time another -/
def gAny (K : PySem.W.Frag) (n : Nat) (t : TGs) : TG := fun v σ H R => gTup K n t v σ H R ∨ gLst K n t v σ H R
theorem pg_any {X : Cx} {pos : Pos} {es : List Expr} {k : Nat} {t : TGs} {n : Nat} (hc : X.calm = true) (h : PGs X es t) (hn : (assignEach es X.env).length = n := by rfl) (hst : (assignEach es X.env).findIdx? (·.1) = none := by rfl) : PG X (.Tuple es k pos) (gAny X.K n t) :=
  ⟨fun pn s σ H v u Q I r q => q.elim (fun q => (pg_tup hc h hn hst).run pn s σ H v u Q I r q) fun q => (pg_lst hc h hn hst).run pn s σ H v u Q I r q⟩
theorem gany_go {b : Bool} {K : PySem.W.Frag} {n : Nat} {t : TGs} {a : Addr} {xs : List V} {σ : St} {H : Hp} {R : St → Hp → Prop} (h : SqB b K H a xs) (l : xs.length = n) (r : t xs σ H R) : gAny K n t (.ref a) σ H R := by
  cases b
  · exact .inl ⟨a, xs, rfl, h, l, r⟩
  · exact .inr ⟨a, xs, rfl, h, l, r⟩
/-! ### lowest terms -/
def spLow : Sp := fun vs H Q _ => ∃ (T : Int) (W : Nat), vs = [.int T, .int W] ∧ W ≠ 0 ∧ W < 2 ^ 8900 ∧ ∀ (t : Addr) (G : Hp), Same H G → G t = some (.tup [.int (mkRat T W).num, .int (mkRat T W).den]) → Q (.ref t) G
/-- powers up to the k-th -/
def powV (z : Int) (k : Nat) : List Int := (List.range (k + 1)).map fun i => z ^ i
theorem powV_len (z : Int) (k : Nat) : (powV z k).length = k + 1 := by unfold powV; rw [List.length_map, List.length_range]
theorem powV_at {z : Int} {k i : Nat} (h : i ≤ k) : (powV z k)[i]? = some (z ^ i) := by
  unfold powV
  rw [List.getElem?_map, List.getElem?_range (by omega)]
  rfl
theorem powV_succ (z : Int) (k : Nat) : powV z (k + 1) = powV z k ++ [z ^ (k + 1)] := by
  unfold powV
  rw [List.range_succ, List.map_append]
  rfl
theorem powV_zero (z : Int) : powV z 0 = [1] := by
  unfold powV
  simp
theorem powV_last (z : Int) (k : Nat) : atI ((powV z k).map V.int) (-1) = some (.int (z ^ k)) := by
  cases k with
  | zero =>
    rw [powV_zero, Int.pow_zero]
    exact atI_last [] _
  | succ k =>
    rw [powV_succ, List.map_append]
    exact atI_last _ _
def spPowers : Sp := fun vs H Q _ => ∃ (z : Int) (k : Nat), vs = [.int z, .int k] ∧ z.natAbs < 2 ^ 100 ∧ k ≤ 80 ∧ ∀ (a : Addr) (G : Hp), Same H G → H a = none → G a = some (.lst ((powV z k).map V.int)) → Q (.ref a) G
theorem pow_bits {z : Int} {k : Nat} (h : z.natAbs < 2 ^ 100) (k8 : k ≤ 80) : (z ^ k).natAbs < 2 ^ 8001 := by
  rw [Int.natAbs_pow]
  refine Nat.lt_of_le_of_lt (Nat.pow_le_pow_left (Nat.le_of_lt h) k) ?_
  rw [← Nat.pow_mul]
  exact Nat.pow_lt_pow_right (by decide) (by omega)
section
variable {P : Program} {w : World} {K : PySem.W.Frag} {mg : Str → Option Value} {base : Heap}
theorem scLow : FnScope ["n", "d", "common"] ["n", "d"] (defScope sLow) := ⟨rfl, rfl, rfl, by decide +kernel, rfl, by decide +kernel, by decide +kernel⟩
theorem scPowers : FnScope ["base", "most", "found", "_"] ["base", "most"] (defScope sPowers) := ⟨rfl, rfl, rfl, by decide +kernel, rfl, by decide +kernel, by decide +kernel⟩
theorem scVal : FnScope ["p", "pairs", "name", "known", "highest", "tops", "bottoms", "whole", "n", "d", "total", "monomial", "many", "top", "bottom", "exponent", "fraction"] ["p", "pairs"] (defScope sVal) := ⟨rfl, rfl, rfl, by decide +kernel, rfl, by decide +kernel, by decide +kernel⟩
theorem ok_low {f : Addr} {fd : FuncData} (F : Fun K "lowest" "lowest" sLow f fd) (gcd : mg "gcd" = some (.builtin "math.gcd")) : FnOk P w K mg base CX0 1 f fd ["n", "d"] spLow := by
  refine F.ok scLow (fun vs H Q E h => ?_) (fun cdv A outer s H vs Q E hr h => ?_)
  · obtain ⟨T, W, rfl, _⟩ := h
    rfl
  · obtain ⟨T, W, rfl, w0, w9, go⟩ := h
    refine ⟨_, (pss_cons (ps_set (i := 2) scLow.nd rfl (Or.inl rfl) (pe_callBfun cr_gcd rfl gcd (pa_cons (pv 0) (pa_cons (pv 1) pa_nil))))
      (pss_one (ps_ret (pe_tup (pa_cons (pe_op op_fdivW (pv 0) (pv 2)) (pa_cons (pe_op op_fdivW (pv 1) (pv 2)) pa_nil)))))), ?_⟩
    have gp : 0 < Nat.gcd T.natAbs W := Nat.gcd_pos_of_pos_right _ (Nat.pos_of_ne_zero w0)
    have gl : Nat.gcd T.natAbs W ≤ W := Nat.gcd_le_right _ (Nat.pos_of_ne_zero w0)
    obtain ⟨e1, e2⟩ := mk_low (T := T) w0
    refine ⟨_, rfl, _, rfl, T, W, rfl, ?_⟩
    rw [Int.natAbs_natCast]
    have dv : ∀ c : Int, CDivW c ((Nat.gcd T.natAbs W : Nat) : Int) := fun c => wide_div (by omega) (b := 8900) (by rw [Int.natAbs_natCast]; omega) (by decide) (by decide)
    refine ⟨_, rfl, _, rfl, _, _, rfl, rfl, dv _, _, rfl, _, rfl, _, _, rfl, rfl, dv _, by show 2 ≤ sizeLine; decide, fun t nt => go t _ (same_new nt) ?_⟩
    rw [upd_same, e1, e2]
    rfl
theorem ok_powers {f : Addr} {fd : FuncData} (F : Fun K "_powers" "_powers" sPowers f fd) (rng : mg "range" = none) : FnOk P w K mg base CX0 1 f fd ["base", "most"] spPowers := by
  refine F.ok scPowers (fun vs H Q E h => ?_) (fun cdv A outer s H vs Q E hr h => ?_)
  · obtain ⟨z, k, rfl, _⟩ := h
    rfl
  · obtain ⟨z, k, rfl, hz, k8, go⟩ := h
    refine ⟨_, (pss_cons (ps_set (i := 2) scPowers.nd rfl (Or.inl rfl) (pe_lst (pa_cons pe_int pa_nil)))
      (pss_cons (ps_for PassesOwn.never rfl (pi_range1 (by rfl) rng (pa_cons (pv 1) pa_nil)) (pg_name (i := 3) scPowers.nd rfl (Or.inl rfl)) (pss_one (ps_expr (pe_bm PySem.F.plainAttrs_list PySem.F.slot_list_append PySem.F.type_list_append mt_append (pv 2) (pa_cons (pe_op op_mulW (pe_ix ix_list (pv 2) (pe_un un_neg pe_int) (fun _ _ => rfl)) (pv 0)) pa_nil)))))
      (pss_one (ps_ret (pv 2))))), ?_⟩
    refine ⟨by show 1 ≤ sizeLine; decide, fun L nL => ?_⟩
    refine ⟨_, rfl, _, rfl, by omega, by omega, for_range (lo := 0) (n := ((k : Nat) : Int).toNat) (fun (i : Nat) (σ : L2.St) (G : Hp) => ∃ u3 : Option V, σ = [some (.int z), some (.int (k : Int)), some (.ref L), u3] ∧ Same H G ∧ G L = some (.lst ((powV z i).map V.int))) ⟨_, rfl, same_new nL, by rw [upd_same, powV_zero]; rfl⟩ (fun i σ G hi ⟨u3, hσ, sG, hG⟩ => ?_) (fun σ G ⟨u3, hσ, sG, hG⟩ => ?_)⟩
    · subst hσ
      rw [Int.toNat_natCast] at hi
      have hl := powV_last z i
      refine ⟨_, rfl, .inl ⟨rfl, _, SqL.of hG⟩, _, rfl, _, rfl, L, _, _, _, rfl, rfl, SqL.of hG, hl, ?_⟩
      refine ⟨_, rfl, _, _, rfl, rfl, wide_mul (pow_bits hz (by omega)) hz (by decide) (by decide) (by decide), L, _, _, rfl, rfl, hG, by rw [List.length_map, powV_len, sizeLine_eq]; omega, _, rfl, fun b o e => (upd_ne (ne_of_none e nL)).trans (sG b o e), ?_⟩
      rw [upd_same, powV_succ, List.map_append, Int.pow_succ]
      rfl
    · subst hσ
      rw [Int.toNat_natCast] at hG
      exact ⟨_, rfl, go L G sG nL hG⟩
end
/-! ### dicts of objects by names -/
def dR (R : List (Str × Addr)) : List (Key × V) := R.map fun x => (Sum.inr x.1, V.ref x.2)
theorem valV_dR : ∀ {R : List (Str × Addr)}, (R.map (·.1)).Nodup → ∀ {x : Str} {a : Addr}, (x, a) ∈ R → valV (dR R) (Sum.inr x) = some (.ref a)
  | [], _, _, _, h => nomatch h
  | y :: R, nd, x, a, h => by
    have nd' := List.nodup_cons.mp nd
    rcases List.mem_cons.mp h with e | h
    · subst e
      exact valV_pos rfl
    · have ne : ¬ (Sum.inr y.1 : Key) = Sum.inr x := fun z => nd'.1 (List.mem_map.mpr ⟨(x, a), h, (Sum.inr.inj z).symm⟩)
      exact (valV_neg (p := (Sum.inr y.1, V.ref y.2)) ne).trans (valV_dR nd'.2 h)
theorem valV_dR_none : ∀ {R : List (Str × Addr)} {x : Str}, x ∉ R.map (·.1) → valV (dR R) (Sum.inr x) = none
  | [], _, _ => rfl
  | y :: R, x, h => by
    rw [List.map_cons, List.mem_cons, not_or] at h
    have ne : ¬ (Sum.inr y.1 : Key) = Sum.inr x := fun z => h.1 (Sum.inr.inj z).symm
    exact (valV_neg (p := (Sum.inr y.1, V.ref y.2)) ne).trans (valV_dR_none h.2)
theorem putK_dR {R : List (Str × Addr)} {x : Str} {a : Addr} (h : x ∉ R.map (·.1)) : putK (dR R) (Sum.inr x) (.ref a) = dR (R ++ [(x, a)]) := by
  rw [putK_new _ (valV_dR_none h)]
  unfold dR
  rw [List.map_append]
  rfl
theorem len_dR (R : List (Str × Addr)) : (dR R).length = R.length := List.length_map ..
/-! ### bounds -/
def sumN : List Str → Expo → Nat
  | [], _ => 0
  | x :: ns, f => f x + sumN ns f
theorem sumN_le {f h : Expo} : ∀ {ns : List Str}, (∀ x ∈ ns, f x ≤ h x) → sumN ns f ≤ sumN ns h
  | [], _ => Nat.le_refl _
  | x :: ns, q => Nat.add_le_add (q x List.mem_cons_self) (sumN_le fun y hy => q y (List.mem_cons_of_mem _ hy))
theorem sumN_const {f : Expo} {e : Nat} : ∀ {ns : List Str}, (∀ x ∈ ns, f x ≤ e) → sumN ns f ≤ ns.length * e
  | [], _ => Nat.zero_le _
  | x :: ns, q => by
    have := sumN_const (ns := ns) fun y hy => q y (List.mem_cons_of_mem _ hy)
    have := q x List.mem_cons_self
    show f x + sumN ns f ≤ _
    rw [List.length_cons, Nat.succ_mul]
    omega
theorem sumN_take (f : Expo) : ∀ (ns : List Str) (i : Nat), sumN (ns.take i) f ≤ sumN ns f
  | [], i => by rw [List.take_nil]; exact Nat.le_refl _
  | x :: ns, 0 => Nat.zero_le _
  | x :: ns, i + 1 => by
    show f x + sumN (ns.take i) f ≤ f x + sumN ns f
    have := sumN_take f ns i
    omega
theorem evX_abs {s : Str → Int} {f : Expo} : ∀ {ns : List Str}, (∀ x ∈ ns, (s x).natAbs < 2 ^ 100) → (evX s ns f).natAbs ≤ 2 ^ (100 * sumN ns f)
  | [], _ => Nat.le_refl _
  | x :: ns, h => by
    show (s x ^ f x * evX s ns f).natAbs ≤ 2 ^ (100 * (f x + sumN ns f))
    rw [Int.natAbs_mul, Nat.mul_add, Nat.pow_add]
    refine Nat.mul_le_mul ?_ (evX_abs fun y hy => h y (List.mem_cons_of_mem _ hy))
    rw [Int.natAbs_pow, Nat.pow_mul]
    exact Nat.pow_le_pow_left (Nat.le_of_lt (h x List.mem_cons_self)) _
theorem evX_snoc (s : Str → Int) (f : Expo) (x : Str) : ∀ ns, evX s (ns ++ [x]) f = evX s ns f * s x ^ f x
  | [] => by show s x ^ f x * 1 = 1 * _; rw [Int.mul_one, Int.one_mul]
  | y :: ns => by
    show s y ^ f y * evX s (ns ++ [x]) f = s y ^ f y * evX s ns f * _
    rw [evX_snoc s f x ns, Int.mul_assoc]
theorem evM_snoc (s : Str → Int) (f : Fac) : ∀ m : Mon, evM s (m ++ [f]) = evM s m * s f.1 ^ f.2.toNat
  | [] => by show _ * 1 = 1 * _; rw [Int.mul_one, Int.one_mul]
  | u :: m => by
    show s u.1 ^ u.2.toNat * evM s (m ++ [f]) = s u.1 ^ u.2.toNat * evM s m * _
    rw [evM_snoc s f m, Int.mul_assoc]
theorem over_snoc (n d : Str → Int) (ns : List Str) (h : Expo) (t : Term) : ∀ p : Poly, overP n d ns h (p ++ [t]) = overP n d ns h p + t.2 * evM n t.1 * evX d ns (gapE h (exM t.1))
  | [] => by show _ + (0 : Int) = 0 + _; omega
  | u :: p => by
    show _ + overP n d ns h (p ++ [t]) = _ + overP n d ns h p + _
    rw [over_snoc n d ns h t p]
    omega
/-! ### the exponents of a monomial, below the degrees -/
theorem MonOk.take {m : Mon} (h : MonOk m) (j : Nat) : MonOk (m.take j) := ⟨h.up.sublist (List.take_sublist _ _), fun f hf => h.ge f (List.mem_of_mem_take hf)⟩
theorem exM_deg {D : KS} {m : Mon} (mo : MonOk m) (h : ∀ f ∈ m, f.2 ≤ getT D f.1) (x : Str) : exM m x ≤ (getT D x).toNat := by
  by_cases q : ∃ f ∈ m, f.1 = x
  · obtain ⟨f, hf, rfl⟩ := q
    rw [exM_at mo.nd hf]
    have := h f hf
    omega
  · rw [exM_out fun f hf e => q ⟨f, hf, e⟩]
    exact Nat.zero_le _
theorem mon_abs {s : Str → Int} {D : KS} {m : Mon} {ys : List Str} (mo : MonOk m) (h : ∀ f ∈ m, f.2 ≤ getT D f.1) (nd : ys.Nodup) (hm : ∀ f ∈ m, f.1 ∈ ys) (b : ∀ x ∈ ys, (s x).natAbs < 2 ^ 100) (l : sumN ys (fun x => (getT D x).toNat) ≤ 80) : (evM s m).natAbs < 2 ^ 8001 := by
  rw [evM_ex s nd hm]
  refine Nat.lt_of_le_of_lt (evX_abs b) (Nat.pow_lt_pow_right (by decide) ?_)
  have := sumN_le (ns := ys) fun x _ => exM_deg mo h x
  omega
/-! ### tables of powers -/
structure PowD (G : Hp) (da : Addr) (s : Str → Int) (h : Str → Nat) (R : List (Str × Addr)) (xs : List Str) : Prop where
  at_ : G da = some (.dK (dR R))
  ks : R.map (·.1) = xs
  ls : ∀ x ∈ R, G x.2 = some (.lst ((powV (s x.1) (h x.1)).map V.int))
section
variable {G G' : Hp} {da db : Addr} {s : Str → Int} {h : Str → Nat} {R : List (Str × Addr)} {xs : List Str}
theorem PowD.nil (e : G da = some (.dK [])) : PowD G da s h [] [] := ⟨e, rfl, fun x hx => nomatch hx⟩
theorem PowD.same (p : PowD G da s h R xs) (q : Same G G') : PowD G' da s h R xs := ⟨q _ _ p.at_, p.ks, fun x hx => q _ _ (p.ls x hx)⟩
theorem PowD.oth {kvs : List (Key × V)} (p : PowD G da s h R xs) (q : Oth db G G') (hd : G db = some (.dK kvs)) (ne : da ≠ db) : PowD G' da s h R xs := ⟨q _ _ ne p.at_, p.ks, fun x hx => q _ _ (fun e => by have := p.ls x hx; rw [e, hd] at this; cases this) (p.ls x hx)⟩
theorem PowD.oth2 {kvs lvs : List (Key × V)} (p : PowD G da s h R xs) {dc : Addr} (q : ∀ b o, b ≠ db → b ≠ dc → G b = some o → G' b = some o) (hd : G db = some (.dK kvs)) (hc : G dc = some (.dK lvs)) (ne : da ≠ db) (nf : da ≠ dc) : PowD G' da s h R xs :=
  ⟨q _ _ ne nf p.at_, p.ks, fun x hx => q _ _ (fun e => by have := p.ls x hx; rw [e, hd] at this; cases this) (fun e => by have := p.ls x hx; rw [e, hc] at this; cases this) (p.ls x hx)⟩
theorem PowD.put (p : PowD G da s h R xs) {x : Str} {a : Addr} (nx : x ∉ xs) (ha : G a = some (.lst ((powV (s x) (h x)).map V.int))) : PowD (upd G da (.dK (putK (dR R) (Sum.inr x) (.ref a)))) da s h (R ++ [(x, a)]) (xs ++ [x]) := by
  have go : ∀ {b : Addr} {l : List V}, G b = some (.lst l) → upd G da (.dK (putK (dR R) (Sum.inr x) (.ref a))) b = some (.lst l) := fun {b l} hb => (upd_ne fun e => by rw [e, p.at_] at hb; cases hb).trans hb
  refine ⟨by rw [upd_same, putK_dR (by rw [p.ks]; exact nx)], by rw [List.map_append, p.ks]; rfl, fun y hy => ?_⟩
  rcases List.mem_append.mp hy with q | q
  · exact go (p.ls y q)
  · rw [List.mem_singleton.mp q]
    exact go ha
theorem PowD.val (p : PowD G da s h R xs) (nd : xs.Nodup) {x : Str} (hx : x ∈ xs) : ∃ a, valV (dR R) (Sum.inr x) = some (.ref a) ∧ G a = some (.lst ((powV (s x) (h x)).map V.int)) := by
  rw [← p.ks] at hx nd
  obtain ⟨y, hy, rfl⟩ := List.mem_map.mp hx
  exact ⟨y.2, valV_dR nd hy, p.ls y hy⟩
theorem PowD.len (p : PowD G da s h R xs) : (dR R).length = xs.length := by rw [len_dR, ← p.ks, List.length_map]
end
/-- all but two stays -/
def Oth2 (d e : Addr) (H G : Hp) : Prop := ∀ b o, b ≠ d → b ≠ e → H b = some o → G b = some o
theorem Oth2.refl {d e : Addr} {H : Hp} : Oth2 d e H H := fun _ _ _ _ h => h
theorem Oth2.keeps {K : PySem.W.Frag} {H G : Hp} {d e : Addr} {k l : List (Key × V)} (s : Oth2 d e H G) (hd : H d = some (.dK k)) (he : H e = some (.dK l)) : Keeps K H G := fun b a xs h => by
  cases b
  · rcases h with (h | ⟨o, h⟩) | h
    · exact .inl (.inl (s _ _ (fun z => by rw [z, hd] at h; cases h) (fun z => by rw [z, he] at h; cases h) h))
    · exact .inl (.inr ⟨o, s _ _ (fun z => by rw [z, hd] at h; cases h) (fun z => by rw [z, he] at h; cases h) h⟩)
    · exact .inr h
  · rcases h with (h | ⟨o, h⟩) | h
    · exact .inl (.inl (s _ _ (fun z => by rw [z, hd] at h; cases h) (fun z => by rw [z, he] at h; cases h) h))
    · exact .inl (.inr ⟨o, s _ _ (fun z => by rw [z, hd] at h; cases h) (fun z => by rw [z, he] at h; cases h) h⟩)
    · exact .inr h
theorem Oth2.same {H G G' : Hp} {d e : Addr} (s : Oth2 d e H G) (q : Same G G') : Oth2 d e H G' := fun b o nd ne h => q _ _ (s b o nd ne h)
theorem Oth2.put1 {H G : Hp} {d e : Addr} {o : HO} (s : Oth2 d e H G) : Oth2 d e H (upd G d o) := fun b o nd ne h => (upd_ne nd).trans (s b o nd ne h)
theorem Oth2.put2 {H G : Hp} {d e : Addr} {o : HO} (s : Oth2 d e H G) : Oth2 d e H (upd G e o) := fun b o nd ne h => (upd_ne ne).trans (s b o nd ne h)
/-! ### value -/
def PairR (K : PySem.W.Frag) (H : Hp) (n d : Str → Int) (x : Str) (v : V) : Prop := ∃ (b : Bool) (t u : Addr), v = .ref t ∧ SqB b K H t [.str x, .ref u] ∧ SqB b K H u [.int (n x), .int (d x)]
/-- at a pairs of names and fractions -/
def PairsC (c : Bool) (K : PySem.W.Frag) (H : Hp) (n d : Str → Int) (xs : List Str) (a : Addr) : Prop := ∃ vs, SqB c K H a vs ∧ AllV (PairR K H n d) xs vs
theorem PairR.keep {K : PySem.W.Frag} {H G : Hp} {n d : Str → Int} {x : Str} {v : V} (h : PairR K H n d x v) (k : Keeps K H G) : PairR K G n d x v := by
  obtain ⟨b, t, u, e, h1, h2⟩ := h
  exact ⟨b, t, u, e, k _ _ _ h1, k _ _ _ h2⟩
theorem PairsC.keep {c : Bool} {K : PySem.W.Frag} {H G : Hp} {n d : Str → Int} {xs : List Str} {a : Addr} (h : PairsC c K H n d xs a) (k : Keeps K H G) : PairsC c K G n d xs a := by
  obtain ⟨vs, h1, h2⟩ := h
  exact ⟨vs, k _ _ _ h1, h2.mono fun x v q => q.keep k⟩
/-- a fraction at u -/
def FracAt (K : PySem.W.Frag) (H : Hp) (u : Addr) (n d : Int) : Prop := ∃ b, SqB b K H u [.int n, .int d]
structure ValIn (K : PySem.W.Frag) (H : Hp) (c b c' : Bool) (a pa : Addr) (p : Poly) (n d : Str → Int) (xs L : List Str) (e bb : Nat) : Prop where
  kp : PolyC c b K H p a
  kx : PairsC c' K H n d xs pa
  nd : xs.Nodup
  xl : xs.length ≤ 1000
  nb : ∀ x ∈ xs, (n x).natAbs < 2 ^ 100 ∧ 0 < d x ∧ (d x).natAbs < 2 ^ 100
  nm : NamesOk L
  l60 : L.length ≤ 60
  tp : Tame L e bb p
  le : L.length * e ≤ 80
  e80 : e ≤ 80
  b9 : bb ≤ 2000
def spVal (K : PySem.W.Frag) : Sp := fun vs H Q _ => ∃ (c b c' : Bool) (a pa : Addr) (p : Poly) (n d : Str → Int) (xs L : List Str) (e bb : Nat), vs = [.ref a, .ref pa] ∧ ValIn K H c b c' a pa p n d xs L e bb ∧ (∀ f ∈ facs p, f.1 ∈ xs) ∧
  ∀ (t : Addr) (G : Hp), Same H G → G t = some (.tup [.int (rP (frac n d) p).num, .int (rP (frac n d) p).den]) → Q (.ref t) G
/-- z is the first of the names that lack -/
structure Lacks (p : Poly) (xs : List Str) (z : Str) : Prop where
  has : ∃ f ∈ facs p, f.1 = z
  out : z ∉ xs
  first : ∀ f ∈ facs p, f.1 ∉ xs → ¬ f.1.cps.toList < z.cps.toList
def spValB (K : PySem.W.Frag) (C : Addr) : Sp := fun vs H _ E => ∃ (c b c' : Bool) (a pa : Addr) (p : Poly) (n d : Str → Int) (xs L : List Str) (e bb : Nat) (z : Str), vs = [.ref a, .ref pa] ∧ ValIn K H c b c' a pa p n d xs L e bb ∧ Lacks p xs z ∧ z.length ≤ 1000 ∧ Raises C z H E
structure ValTxt (P : Program) (w : World) (K : PySem.W.Frag) (mg : Str → Option Value) (base : Heap) (fG fP fL : Addr) (dG dP dL : FuncData) : Prop where
  yG : CallT P w K mg base CX0 1 "degrees" ["p"] (spDeg K) fG dG
  yP : CallT P w K mg base CX0 1 "_powers" ["base", "most"] spPowers fP dP
  yL : CallT P w K mg base CX0 1 "lowest" ["n", "d"] spLow fL dL
  sor : mg "sorted" = none
section
variable {P : Program} {w : World} {K : PySem.W.Frag} {mg : Str → Option Value} {base : Heap} {fG fP fL B C fI : Addr} {dG dP dL dI : FuncData}
theorem ok_val {f : Addr} {fd : FuncData} (F : Fun K "value" "value" sVal f fd) (Z : ValTxt P w K mg base fG fP fL dG dP dL) : FnOk P w K mg base CX0 2 f fd ["p", "pairs"] (spVal K) := by
  refine F.ok scVal (fun vs H Q E h => ?_) (fun cdv A outer s H vs Q E hr h => ?_)
  · obtain ⟨c, b, c', a, pa, p, n, d, xs, L, e, bb, rfl, _⟩ := h
    rfl
  · obtain ⟨c, b, c', a, pa, p, n, d, xs, L, e, bb, rfl, hi, have_, go⟩ := h
    refine ⟨_, (pss_cons (ps_setDc (i := 3) (own := [("name", 2), ("fraction", 16)]) (g := (gAny K 2 (gCons (gName 2) (gCons (gName 16) gNil)))) (tt := tYes) (tk := (tVar 2)) (tv := (tVar 16)) rfl scVal.nd rfl rfl rfl (pi_seqB c' (pv 1)) (blkOk_by (own := [("name", 2), ("fraction", 16)]) (N := ["p", "pairs", "name", "known", "highest", "tops", "bottoms", "whole", "n", "d", "total", "monomial", "many", "top", "bottom", "exponent", "fraction"]) (sc := defScope sVal) (by decide +kernel)) (fun _ _ _ _ _ => (pg_any rfl (pgs_cons (pg_name (i := 2) scVal.nd rfl (Or.inl rfl)) (pgs_cons (pg_name (i := 16) scVal.nd rfl (Or.inl rfl)) pgs_nil)))) (fun _ _ _ _ _ => pts_nil) (fun _ _ _ _ _ => (pv 2)) (fun _ _ _ _ _ => (pv 16)))
      (pss_cons (ps_set (i := 4) scVal.nd rfl (Or.inl rfl) (pe_call Z.yG.ok (hr.mono (by decide)) rfl Z.yG.g Z.yG.k Z.yG.b .nil pass0 (pa_cons (pv 0) pa_nil)))
      (pss_cons (ps_set (i := 5) scVal.nd rfl (Or.inl rfl) pe_dnewK)
      (pss_cons (ps_set (i := 6) scVal.nd rfl (Or.inl rfl) pe_dnewK)
      (pss_cons (ps_set (i := 7) scVal.nd rfl (Or.inl rfl) pe_int)
      (pss_cons (ps_for PassesOwn.never rfl (pi_list (pe_callB (call_sortedD rfl) (by rfl) Z.sor (by decide +kernel) (pa_cons (pv 4) pa_nil))) (pg_name (i := 2) scVal.nd rfl (Or.inl rfl)) (pss_cons (ps_if (pt_cmp (pc_dnotin (hu_of hr) (pv 2) (pv 3))) pss_never pss_nil)
      (pss_cons (ps_asg (pe_dget (hu_of hr) (pv 3) (pv 2) (fun _ _ => rfl)) (pg_any rfl (pgs_cons (pg_name (i := 8) scVal.nd rfl (Or.inl rfl)) (pgs_cons (pg_name (i := 9) scVal.nd rfl (Or.inl rfl)) pgs_nil))))
      (pss_cons (ps_dput (hu_of hr) (pv 5) (pv 2) (pe_call Z.yP.ok (hr.mono (by decide)) rfl Z.yP.g Z.yP.k Z.yP.b .nil pass0 (pa_cons (pv 8) (pa_cons (pe_dget (hu_of hr) (pv 4) (pv 2) (fun _ _ => rfl)) pa_nil))) rfl)
      (pss_cons (ps_dput (hu_of hr) (pv 6) (pv 2) (pe_call Z.yP.ok (hr.mono (by decide)) rfl Z.yP.g Z.yP.k Z.yP.b .nil pass0 (pa_cons (pv 9) (pa_cons (pe_dget (hu_of hr) (pv 4) (pv 2) (fun _ _ => rfl)) pa_nil))) rfl)
      (pss_one (ps_set (i := 7) scVal.nd rfl (Or.inl rfl) (pe_op op_mulW (pv 7) (pe_ix ix_list (pe_dget (hu_of hr) (pv 6) (pv 2) (fun _ _ => rfl)) (pe_un un_neg pe_int) (fun _ _ => rfl))))))))))
      (pss_cons (ps_set (i := 10) scVal.nd rfl (Or.inl rfl) pe_int)
      (pss_cons (ps_for PassesOwn.never rfl (pi_seqB c (pv 0)) (pg_seqB b rfl (pgs_cons (pg_name (i := 11) scVal.nd rfl (Or.inl rfl)) (pgs_cons (pg_name (i := 12) scVal.nd rfl (Or.inl rfl)) pgs_nil))) (pss_cons (ps_set (i := 13) scVal.nd rfl (Or.inl rfl) (pv 12))
      (pss_cons (ps_set (i := 14) scVal.nd rfl (Or.inl rfl) pe_int)
      (pss_cons (ps_for PassesOwn.never rfl (pi_seqB b (pv 11)) (pg_seqB b rfl (pgs_cons (pg_name (i := 2) scVal.nd rfl (Or.inl rfl)) (pgs_cons (pg_name (i := 15) scVal.nd rfl (Or.inl rfl)) pgs_nil))) (pss_cons (ps_set (i := 13) scVal.nd rfl (Or.inl rfl) (pe_op op_mulW (pv 13) (pe_ix ix_list (pe_dget (hu_of hr) (pv 5) (pv 2) (fun _ _ => rfl)) (pv 15) (fun _ _ => rfl))))
      (pss_one (ps_set (i := 14) scVal.nd rfl (Or.inl rfl) (pe_op op_mulW (pv 14) (pe_ix ix_list (pe_dget (hu_of hr) (pv 6) (pv 2) (fun _ _ => rfl)) (pv 15) (fun _ _ => rfl)))))))
      (pss_one (ps_set (i := 10) scVal.nd rfl (Or.inl rfl) (pe_op op_add (pv 10) (pe_op op_mulW (pv 13) (pe_op op_fdivW (pv 7) (pv 14))))))))))
      (pss_one (ps_ret (pe_call Z.yL.ok (hr.mono (by decide)) rfl Z.yL.g Z.yL.k Z.yL.b .nil pass0 (pa_cons (pv 10) (pa_cons (pv 7) pa_nil))))))))))))), ?_⟩
    obtain ⟨kp, ⟨vs, hvs, avs⟩, ndx, xl, nb, nm, l60, tp, le, e80, b9⟩ := hi
    have ok := tp.ok
    -- known
    refine seqB_go rfl hvs (fun kn nkn => ?_)
    have w0 := walk_seqB (K := K) (a := pa) (xs := vs) c'
    have lv : vs.length = xs.length := avs.1
    refine blk_n (o := fun _ => .dK []) (n := vs.length) (fun (i : Nat) (F : Hp) => Same H F ∧ ∃ R : List (Str × Addr), F kn = some (.dK (dR R)) ∧ R.map (·.1) = xs.take i ∧ ∀ x ∈ R, FracAt K F x.2 (n x.1) (d x.1))
      ⟨same_new nkn, [], upd_same, rfl, fun x hx => nomatch hx⟩ (fun i F hi ⟨s, _⟩ => w0.goes i F hi (Keeps.same s _ _ _ hvs)) (fun F ⟨s, _⟩ => w0.stops F (Keeps.same s _ _ _ hvs)) (fun i F x F' hi ⟨sF, R, hR, eR, fR⟩ hy => ?_) (fun F ⟨sF, R, hR, eR, fR⟩ => ?_)
    · obtain ⟨e', hv⟩ := w0.yields i F x F' hi (Keeps.same sF _ _ _ hvs) hy
      subst e'
      obtain ⟨y, hyx, b2, t, u, rfl, ht, hu⟩ := avs.get hv
      have yi : i < xs.length := (List.getElem?_eq_some_iff.mp hyx).1
      refine gany_go (Keeps.same sF _ _ _ ht) rfl ⟨_, _, rfl, _, _, rfl, rfl, rfl, ?_⟩
      have lR : R.length = i := by
        have := congrArg List.length eR
        rw [List.length_map, List.length_take] at this
        omega
      have ny : y ∉ R.map (·.1) := by
        rw [eR]
        intro q
        obtain ⟨j, hj⟩ := List.mem_iff_getElem?.mp q
        rw [List.getElem?_take] at hj
        split at hj
        · have := (List.getElem?_inj (List.getElem?_eq_some_iff.mp hj).1 ndx).mp (hj.trans hyx.symm)
          omega
        · cases hj
      refine ⟨_, rfl, _, rfl, _, Sum.inr y, rfl, hR, by rw [len_dR, sizeLine_eq]; omega, fun z o q => (upd_ne (ne_of_none q nkn)).trans (sF _ _ q), R ++ [(y, u)], ?_, ?_, fun z hz => ?_⟩
      · rw [upd_same, putK_dR ny]
      · rw [List.map_append, eR, take_snoc hyx]
        rfl
      · have up : ∀ {v : Addr} {n' d' : Int}, FracAt K F' v n' d' → FracAt K (upd F' kn (.dK (putK (dR R) (Sum.inr y) (.ref u)))) v n' d' := fun {v n' d'} ⟨b3, h3⟩ => ⟨b3, Keeps.oth (d := kn) (fun a o ne q => (upd_ne ne).trans q) hR _ _ _ h3⟩
        rcases List.mem_append.mp hz with q | q
        · exact up (fR z q)
        · rw [List.mem_singleton.mp q]
          exact up ⟨b2, Keeps.same sF _ _ _ hu⟩
    rw [lv, List.take_length] at eR
    have Rnd : (R.map (·.1)).Nodup := by rw [eR]; exact ndx
    -- degrees
    refine ⟨_, rfl, c, b, a, p, rfl, kp.keep (Keeps.same sF), ok.ge, tp.facs nm, fun hg D G1 s1 n1 hD dg => ?_⟩
    have Dl : (D.map (·.1)).length < 64 := by
      refine Nat.lt_of_le_of_lt (nodup_sub dg.nd fun x hx => ?_) (by omega : L.length < 64)
      obtain ⟨f, hf, rfl⟩ := (dg.keys x).mp hx
      obtain ⟨t, ht, q⟩ := mem_facs.mp hf
      exact (tp.at_ t ht f q).1
    refine fun ta nta tb ntb => ?_
    have nab : ta ≠ tb := fun e => by rw [← e, upd_same] at ntb; cases ntb
    have noT : ∀ b o, H b = some o → b ≠ ta ∧ b ≠ tb := fun b o hb => by
      have q := (sF.trans s1) _ _ hb
      have e1 : b ≠ ta := fun z => by rw [z, nta] at q; cases q
      exact ⟨e1, fun z => by rw [← z, upd_ne e1, q] at ntb; cases ntb⟩
    have s2 := (same_new (o := .dK []) nta).trans (same_new (o := .dK []) ntb)
    have hR1 := s1 _ _ hR
    have kta : kn ≠ ta := fun z => by rw [z, nta] at hR1; cases hR1
    have ktb : kn ≠ tb := fun z => by rw [← z, upd_ne kta, hR1] at ntb; cases ntb
    have hta : hg ≠ ta := fun z => by unfold DictS at hD; rw [z, nta] at hD; cases hD
    have htb : hg ≠ tb := fun z => by unfold DictS at hD; rw [← z, upd_ne hta, hD] at ntb; cases ntb
    refine ⟨_, rfl, hg, _, D.map (·.1), rfl, .inl (s2 _ _ hD), keys_mpS D, Dl, fun ys l pm so nl => ?_⟩
    have s3 := s2.trans (same_new (o := .lst (ys.map V.str)) nl)
    have sF := (sF.trans s1).trans s3
    have hh := s3 _ _ hD
    have hk := (s1.trans s3) _ _ hR
    have tA := same_new (o := .lst (ys.map V.str)) nl _ _ ((upd_ne (o := .dK []) nab).trans (upd_same (H := G1) (a := ta) (o := .dK [])))
    have tB := same_new (o := .lst (ys.map V.str)) nl _ _ (upd_same (H := upd G1 ta (.dK [])) (a := tb) (o := .dK []))
    have hl : (upd (upd (upd G1 ta (.dK [])) tb (.dK [])) l (.lst (ys.map V.str))) l = _ := upd_same
    have fR : ∀ x ∈ R, FracAt K _ x.2 (n x.1) (d x.1) := fun x hx => (fR x hx).imp fun b3 h3 => Keeps.same (s1.trans s3) _ _ _ h3
    have ha2 : (upd (upd (upd G1 ta (.dK [])) tb (.dK [])) l (.lst (ys.map V.str))) ta ≠ none := by rw [tA]; exact fun z => nomatch z
    generalize upd (upd (upd G1 ta (.dK [])) tb (.dK [])) l (.lst (ys.map V.str)) = F2 at tA tB hl fR hh hk sF ha2 ⊢
    have ndy : ys.Nodup := pm.nodup_iff.mpr dg.nd
    have inD : ∀ y ∈ ys, ∃ f ∈ facs p, f.1 = y ∧ f.2 = getT D y := fun y hy => dg.at_ y (pm.mem_iff.mp hy)
    have ly : ys.length < 64 := by rw [pm.length_eq]; exact Dl
    have hE : ∀ y ∈ ys, y ∈ L ∧ (getT D y).toNat ≤ e ∧ 0 ≤ getT D y := fun y hy => by
      obtain ⟨f, hf, q1, q2⟩ := inD y hy
      obtain ⟨t, ht, q⟩ := mem_facs.mp hf
      have := tp.at_ t ht f q
      have := ok.ge f hf
      rw [← q1, ← q2, q1] at *
      exact ⟨by rw [← q1]; exact (tp.at_ t ht f q).1, by omega, by omega⟩
    have ysL : ys.length ≤ L.length := nodup_sub ndy fun y hy => (hE y hy).1
    have sum80 : ∀ i, sumN (ys.take i) (fun x => (getT D x).toNat) ≤ 80 := fun i => by
      have h1 := sumN_take (fun x => (getT D x).toNat) ys i
      have h2 := sumN_const (f := fun x => (getT D x).toNat) (e := e) (ns := ys) fun y hy => (hE y hy).2.1
      have h3 := Nat.mul_le_mul_right e ysL
      omega
    have yx : ∀ y ∈ ys, y ∈ xs := fun y hy => by
      obtain ⟨f, hf, q, _⟩ := inD y hy
      rw [← q]
      exact have_ f hf
    refine ⟨_, rfl, ⟨_, SqL.of hl⟩, ?_⟩
    refine for_it (walk_list (K := K) (a := l) (xs := ys.map V.str)) (fun i σ G => ∃ (u2 u8 u9 : Option V) (Rt Rb : List (Str × Addr)), σ = [some (.ref a), some (.ref pa), u2, some (.ref kn), some (.ref hg), some (.ref ta), some (.ref tb), some (.int (evX d (ys.take i) fun x => (getT D x).toNat)), u8, u9, none, none, none, none, none, none, none] ∧ Oth2 ta tb F2 G ∧ PowD G ta n (fun x => (getT D x).toNat) Rt (ys.take i) ∧ PowD G tb d (fun x => (getT D x).toNat) Rb (ys.take i))
      ⟨_, _, _, [], [], rfl, Oth2.refl, .nil tA, .nil tB⟩ (fun i σ G _ ⟨_, _, _, _, _, _, o, _⟩ => o.keeps tA tB true _ _ (SqL.of hl)) (fun i x σ G G' hi ⟨u2, u8, u9, Rt, Rb, hσ, o, pT, pB⟩ ⟨e', hv⟩ => ?_) (fun σ G ⟨u2, u8, u9, Rt, Rb, hσ, o, pT, pB⟩ => ?_)
    · subst hσ e'
      rw [List.getElem?_map] at hv
      obtain ⟨y, hy, rfl⟩ := Option.map_eq_some_iff.mp hv
      have my : y ∈ ys := List.mem_of_getElem? hy
      have hkG := o _ _ kta ktb hk
      have hgG := o _ _ hta htb hh
      obtain ⟨z, zR, zy⟩ := List.mem_map.mp (show y ∈ R.map (·.1) by rw [eR]; exact yx y my)
      have vz := valV_dR Rnd (x := z.1) (a := z.2) zR
      obtain ⟨b3, fz⟩ := fR z zR
      rw [zy] at vz fz
      obtain ⟨yL, ye, y0⟩ := hE y my
      obtain ⟨n100, d0, d100⟩ := nb y (yx y my)
      have vD : valV (mpT eS D) (eS y) = some (.int (((getT D y).toNat : Nat) : Int)) := by
        rw [valV_mpT eS_inj, Int.toNat_of_nonneg y0]
        unfold getT
        cases hv : valT D y with
        | none => exact absurd (pm.mem_iff.mp my) (valT_none.mp hv)
        | some v => rfl
      refine ⟨_, rfl, _, rfl, kn, _, rfl, DGet.k (k := Sum.inr y) hkG, ?_⟩
      rw [vz]
      refine ⟨_, rfl, Eq.mpr (if_neg Bool.false_ne_true) ?_⟩
      refine ⟨_, rfl, _, rfl, kn, _, rfl, by rw [← vz]; exact DGet.k (k := Sum.inr y) hkG, ?_⟩
      refine gany_go (o.keeps tA tB _ _ _ fz) rfl ⟨_, _, rfl, _, _, rfl, rfl, ?_⟩
      have p80 : (getT D y).toNat ≤ 80 := by omega
      have gH : DGet G' hg (.str y) (some (.int (((getT D y).toNat : Nat) : Int))) := by
        rw [← vD]
        exact DGet.k (k := eS y) hgG
      have ny : y ∉ ys.take i := fun q => by
        obtain ⟨j, hj⟩ := List.mem_iff_getElem?.mp q
        rw [List.getElem?_take] at hj
        split at hj
        · have := (List.getElem?_inj (List.getElem?_eq_some_iff.mp hj).1 ndy).mp (hj.trans hy.symm)
          omega
        · cases hj
      have li : (ys.take i).length < sizeLine := by
        rw [List.length_take, sizeLine_eq]
        omega
      refine ⟨_, rfl, _, rfl, _, rfl, hg, _, rfl, gH, n y, (getT D y).toNat, rfl, n100, p80, fun a1 A0 q1 na1 ha1 => ?_⟩
      have pT0 := pT.same q1
      have pB0 := pB.same q1
      refine ⟨_, rfl, _, rfl, ta, _, rfl, DPut.k (k := Sum.inr y) pT0.at_ (by rw [pT0.len]; exact li), ?_⟩
      have pT1 := pT0.put ny ha1
      have pB1 := pB0.oth (db := ta) (G' := upd A0 ta (.dK (putK (dR Rt) (Sum.inr y) (.ref a1)))) Oth.put pT0.at_ (Ne.symm nab)
      have o1 := (o.same q1).put1 (o := .dK (putK (dR Rt) (Sum.inr y) (.ref a1)))
      have gH1 := o1 _ _ hta htb hh
      generalize upd A0 ta (.dK (putK (dR Rt) (Sum.inr y) (.ref a1))) = A1 at pT1 pB1 o1 gH1 ⊢
      refine ⟨_, rfl, _, rfl, _, rfl, hg, _, rfl, by rw [← vD]; exact DGet.k (k := eS y) gH1, d y, (getT D y).toNat, rfl, d100, p80, fun a2 A2 q2 na2 ha2 => ?_⟩
      have pT2 := pT1.same q2
      have pB2 := pB1.same q2
      refine ⟨_, rfl, _, rfl, tb, _, rfl, DPut.k (k := Sum.inr y) pB2.at_ (by rw [pB2.len]; exact li), ?_⟩
      have pB3 := pB2.put ny ha2
      have pT3 := pT2.oth (db := tb) (G' := upd A2 tb (.dK (putK (dR Rb) (Sum.inr y) (.ref a2)))) Oth.put pB2.at_ nab
      have o3 := (o1.same q2).put2 (o := .dK (putK (dR Rb) (Sum.inr y) (.ref a2)))
      generalize upd A2 tb (.dK (putK (dR Rb) (Sum.inr y) (.ref a2))) = A3 at pT3 pB3 o3 ⊢
      have ts : ys.take (i + 1) = ys.take i ++ [y] := take_snoc hy
      have ndi : (ys.take i ++ [y]).Nodup := by rw [← ts]; exact ndy.sublist (List.take_sublist _ _)
      obtain ⟨a3, v3, h3⟩ := pB3.val ndi (x := y) (by simp)
      have gv : DGet A3 tb (.str y) (some (.ref a3)) := by
        rw [← v3]
        exact DGet.k (k := Sum.inr y) pB3.at_
      have ne : evX d (ys.take (i + 1)) (fun x => (getT D x).toNat) = evX d (ys.take i) (fun x => (getT D x).toNat) * d y ^ (getT D y).toNat := by rw [ts, evX_snoc]
      refine ⟨_, rfl, _, rfl, _, rfl, tb, _, rfl, gv, _, rfl, a3, _, _, _, rfl, rfl, SqL.of h3, powV_last _ _, _, _, rfl, rfl, wide_mul (a := 8001) (b := 8001) ?_ (pow_bits d100 p80) (by decide) (by decide) (by decide), ?_⟩
      · refine Nat.lt_of_le_of_lt (evX_abs fun x hx => (nb x (yx x (List.mem_of_mem_take hx))).2.2) (Nat.pow_lt_pow_right (by decide) ?_)
        have := sum80 i
        omega
      · refine ⟨some (.str y), some (.int (n y)), some (.int (d y)), Rt ++ [(y, a1)], Rb ++ [(y, a2)], ?_, o3, by rw [ts]; exact pT3, by rw [ts]; exact pB3⟩
        rw [ne]
        rfl
    · rw [List.length_map, List.take_length] at hσ pT pB
      subst hσ
      obtain ⟨pv, hpv, apv⟩ := kp
      have kG : Keeps K H G := (Keeps.same sF).trans (o.keeps tA tB)
      have s80 := sum80 ys.length
      rw [List.take_length] at s80
      refine seqB_go rfl (kG _ _ _ hpv) ?_
      refine for_it (walk_seqB (K := K) (a := a) (xs := pv) c) (fun i σ G' => ∃ (u2 u8 u9 u11 u12 u13 u14 u15 : Option V), σ = [some (.ref a), some (.ref pa), u2, some (.ref kn), some (.ref hg), some (.ref ta), some (.ref tb), some (.int (evX d ys fun x => (getT D x).toNat)), u8, u9, some (.int (overP n d ys (fun x => (getT D x).toNat) (p.take i))), u11, u12, u13, u14, u15, none] ∧ G' = G)
        ⟨_, _, _, _, _, _, _, _, rfl, rfl⟩ (fun i σ G' _ ⟨_, _, _, _, _, _, _, _, _, e⟩ => by rw [e]; exact kG _ _ _ hpv) (fun i x σ G' G2 hi ⟨u2, u8, u9, u11, u12, u13, u14, u15, hσ, e1⟩ ⟨e2, hv⟩ => ?_) (fun σ G' ⟨u2, u8, u9, u11, u12, u13, u14, u15, hσ, e1⟩ => ?_)
      · rw [e1] at e2
        clear e1
        subst hσ e2
        obtain ⟨t, ht, q, u, rfl, hq, m, ms, rfl, hm, am⟩ := apv.get hv
        have mt : t ∈ p := List.mem_of_getElem? ht
        have mo := (ok.ok t mt).1
        have mge : ∀ f ∈ t.1, f.2 ≤ getT D f.1 := fun f hf => dg.ge f (mem_facs.mpr ⟨t, mt, hf⟩)
        have mys : ∀ f ∈ t.1, f.1 ∈ ys := fun f hf => pm.mem_iff.mpr ((dg.keys f.1).mpr ⟨f, mem_facs.mpr ⟨t, mt, hf⟩, rfl⟩)
        have bn : ∀ x ∈ ys, (n x).natAbs < 2 ^ 100 := fun x hx => (nb x (yx x hx)).1
        have bd : ∀ x ∈ ys, (d x).natAbs < 2 ^ 100 := fun x hx => (nb x (yx x hx)).2.2
        have ab : ∀ {s : Str → Int}, (∀ x ∈ ys, (s x).natAbs < 2 ^ 100) → ∀ j, (evM s (t.1.take j)).natAbs < 2 ^ 8001 := fun {s} b j => mon_abs (MonOk.take mo j) (fun f hf => mge f (List.mem_of_mem_take hf)) ndy (fun f hf => mys f (List.mem_of_mem_take hf)) b s80
        refine gseqB_go (kG _ _ _ hq) rfl ⟨_, _, rfl, _, _, rfl, rfl, ?_⟩
        refine ⟨_, rfl, ?_⟩
        refine seqB_go rfl (kG _ _ _ hm) ?_
        have t2 := tp.bits t mt
        have z0 : t.2 * evM n (t.1.take 0) = t.2 := Int.mul_one _
        refine for_it (walk_seqB (K := K) (a := m) (xs := ms) b) (fun j σ G' => ∃ (u2 u8 u9 u15 : Option V), σ = [some (.ref a), some (.ref pa), u2, some (.ref kn), some (.ref hg), some (.ref ta), some (.ref tb), some (.int (evX d ys fun x => (getT D x).toNat)), u8, u9, some (.int (overP n d ys (fun x => (getT D x).toNat) (p.take i))), some (.ref m), some (.int t.2), some (.int (t.2 * evM n (t.1.take j))), some (.int (evM d (t.1.take j))), u15, none] ∧ G' = G2)
          ⟨u2, u8, u9, u15, by rw [z0]; rfl, rfl⟩ (fun i σ G' _ ⟨_, _, _, _, _, e⟩ => by rw [e]; exact kG _ _ _ hm) (fun j x σ G' G3 hj ⟨u2, u8, u9, u15, hσ, e1⟩ ⟨e2, hw⟩ => ?_) (fun σ G' ⟨u2, u8, u9, u15, hσ, e1⟩ => ?_)
        · rw [e1] at e2
          clear e1
          subst hσ e2
          obtain ⟨fc, hf, cf, rfl, hc⟩ := am.get hw
          have mf : fc ∈ t.1 := List.mem_of_getElem? hf
          have fy := mys fc mf
          have fe := mge fc mf
          have f1 := mo.ge fc mf
          have fN : fc.2 = ((fc.2.toNat : Nat) : Int) := by omega
          obtain ⟨ye1, ye2, ye3⟩ := hE fc.1 fy
          have fl : fc.2.toNat ≤ (getT D fc.1).toNat := by omega
          have f80 : fc.2.toNat ≤ 80 := by omega
          obtain ⟨a1, v1, h1⟩ := pT.val ndy fy
          obtain ⟨a2, v2, h2⟩ := pB.val ndy fy
          have g1 : DGet G3 ta (.str fc.1) (some (.ref a1)) := by
            rw [← v1]
            exact DGet.k (k := Sum.inr fc.1) pT.at_
          have g2 : DGet G3 tb (.str fc.1) (some (.ref a2)) := by
            rw [← v2]
            exact DGet.k (k := Sum.inr fc.1) pB.at_
          have i1 : ∀ (z : Int), atI ((powV z (getT D fc.1).toNat).map V.int) fc.2 = some (.int (z ^ fc.2.toNat)) := fun z => by
            rw [fN]
            refine atI_nat ?_
            rw [List.getElem?_map, powV_at (by omega)]
            rfl
          refine gseqB_go (kG _ _ _ hc) rfl ⟨_, _, rfl, _, _, rfl, rfl, ?_⟩
          refine ⟨_, rfl, _, rfl, _, rfl, ta, _, rfl, g1, _, rfl, a1, _, _, _, rfl, rfl, SqL.of h1, i1 _, _, _, rfl, rfl, wide_mul (wide_lt t2 (ab bn j)) (pow_bits (bn _ fy) f80) (by omega) (by omega) (by omega), ?_⟩
          refine ⟨_, rfl, _, rfl, _, rfl, tb, _, rfl, g2, _, rfl, a2, _, _, _, rfl, rfl, SqL.of h2, i1 _, _, _, rfl, rfl, wide_mul (ab bd j) (pow_bits (bd _ fy) f80) (by omega) (by omega) (by omega), ?_⟩
          refine ⟨some (.str fc.1), u8, u9, some (.int fc.2), ?_, rfl⟩
          rw [take_snoc hf, evM_snoc, evM_snoc, ← Int.mul_assoc]
          rfl
        · rw [am.1, List.take_length] at hσ
          subst hσ e1
          have dp : ∀ x ∈ ys, 0 < d x := fun x hx => (nb x (yx x hx)).2.1
          have gap := evX_gap d (ns := ys) (h := fun x => (getT D x).toNat) (f := exM t.1) fun x _ => exM_deg mo mge x
          have eb := evM_ex d ndy mys
          have bp : 0 < evM d t.1 := by rw [eb]; exact evX_pos _ dp
          have tl := ab bd t.1.length
          have tn := ab bn t.1.length
          rw [List.take_length] at tl tn
          have dv : (evX d ys fun x => (getT D x).toNat) / evM d t.1 = evX d ys (gapE (fun x => (getT D x).toNat) (exM t.1)) := by
            rw [eb, ← gap]
            exact Int.mul_ediv_cancel_left _ (by have := evX_pos (exM t.1) dp; omega)
          have gb : (evX d ys (gapE (fun x => (getT D x).toNat) (exM t.1))).natAbs < 2 ^ 8001 := by
            refine Nat.lt_of_le_of_lt (evX_abs bd) (Nat.pow_lt_pow_right (by decide) ?_)
            have := sumN_le (f := gapE (fun x => (getT D x).toNat) (exM t.1)) (h := fun x => (getT D x).toNat) (ns := ys) fun x _ => Nat.sub_le _ _
            omega
          refine ⟨_, rfl, _, rfl, _, rfl, _, rfl, _, _, rfl, rfl, wide_div bp tl (by decide) (by decide), _, _, rfl, rfl, wide_mul (wide_lt t2 tn) (by rw [dv]; exact gb) (by omega) (by omega) (by omega), _, _, rfl, rfl, ?_⟩
          refine ⟨u2, u8, u9, some (.ref m), some (.int t.2), some (.int (t.2 * evM n t.1)), some (.int (evM d t.1)), u15, ?_, rfl⟩
          rw [dv, take_snoc ht, over_snoc]
          rfl
      · rw [apv.1, List.take_length] at hσ
        subst hσ e1
        have dp : ∀ x ∈ ys, 0 < d x := fun x hx => (nb x (yx x hx)).2.1
        have wp := evX_pos (fun x => (getT D x).toNat) dp
        have wb : (evX d ys fun x => (getT D x).toNat).natAbs < 2 ^ 8001 := Nat.lt_of_le_of_lt (evX_abs fun x hx => (nb x (yx x hx)).2.2) (Nat.pow_lt_pow_right (by decide) (by omega))
        have over := over_rat (n := n) (h := fun x => (getT D x).toNat) ndy dp (p := p) (fun t mt f hf => pm.mem_iff.mpr ((dg.keys f.1).mpr ⟨f, mem_facs.mpr ⟨t, mt, hf⟩, rfl⟩)) fun t mt x _ => exM_deg (ok.ok t mt).1 (fun f hf => dg.ge f (mem_facs.mpr ⟨t, mt, hf⟩)) x
        generalize overP n d ys (fun x => (getT D x).toNat) p = T at over ⊢
        obtain ⟨W, hW⟩ := Int.eq_ofNat_of_zero_le (Int.le_of_lt wp)
        rw [hW] at wp wb over ⊢
        have w0 : W ≠ 0 := by omega
        rw [Int.natAbs_natCast] at wb
        have eq := mk_of w0 (by rw [over]; rfl)
        refine ⟨_, rfl, _, rfl, T, W, rfl, w0, Nat.lt_of_lt_of_le wb (Nat.pow_le_pow_right (by decide) (by decide)), fun v G4 s4 h4 => ?_⟩
        rw [eq] at h4
        exact go v G4 (fun b ob hb => s4 _ _ (o _ _ (noT _ _ hb).1 (noT _ _ hb).2 (sF _ _ hb))) h4
theorem ok_valB {f : Addr} {fd : FuncData} (F : Fun K "value" "value" sVal f fd) (Z : ValTxt P w K mg base fG fP fL dG dP dL) (U : ThereTxt P w K mg base B C fI dI) : FnOk P w K mg base (L2N.CX P w) 3 f fd ["p", "pairs"] (spValB K C) := by
  refine okN F scVal (fun vs H Q E h => ?_) (fun cdv A outer s H vs Q E hr h => ?_)
  · obtain ⟨c, b, c', a, pa, p, n, d, xs, L, e, bb, z, rfl, _⟩ := h
    rfl
  · obtain ⟨c, b, c', a, pa, p, n, d, xs, L, e, bb, zz, rfl, hi, lk, lz, rz⟩ := h
    refine ⟨_, (pss_cons (ps_setDc (i := 3) (own := [("name", 2), ("fraction", 16)]) (g := (gAny K 2 (gCons (gName 2) (gCons (gName 16) gNil)))) (tt := tYes) (tk := (tVar 2)) (tv := (tVar 16)) rfl scVal.nd rfl rfl rfl (pi_seqB c' (pv 1)) (blkOk_by (own := [("name", 2), ("fraction", 16)]) (N := ["p", "pairs", "name", "known", "highest", "tops", "bottoms", "whole", "n", "d", "total", "monomial", "many", "top", "bottom", "exponent", "fraction"]) (sc := defScope sVal) (by decide +kernel)) (fun _ _ _ _ _ => (pg_any rfl (pgs_cons (pg_name (i := 2) scVal.nd rfl (Or.inl rfl)) (pgs_cons (pg_name (i := 16) scVal.nd rfl (Or.inl rfl)) pgs_nil)))) (fun _ _ _ _ _ => pts_nil) (fun _ _ _ _ _ => (pv 2)) (fun _ _ _ _ _ => (pv 16)))
      (pss_cons (ps_set (i := 4) scVal.nd rfl (Or.inl rfl) (pe_call Z.yG.ok (hr.mono (by decide)) rfl Z.yG.g Z.yG.k Z.yG.b .nil pass0 (pa_cons (pv 0) pa_nil)))
      (pss_cons (ps_set (i := 5) scVal.nd rfl (Or.inl rfl) pe_dnewK)
      (pss_cons (ps_set (i := 6) scVal.nd rfl (Or.inl rfl) pe_dnewK)
      (pss_cons (ps_set (i := 7) scVal.nd rfl (Or.inl rfl) pe_int)
      (pss_cons (ps_for (passes_of rfl) rfl (pi_list (pe_callB (call_sortedD rfl) (by rfl) Z.sor (by decide +kernel) (pa_cons (pv 4) pa_nil))) (pg_name (i := 2) scVal.nd rfl (Or.inl rfl)) (pss_cons (ps_if (pt_cmp (pc_dnotin (hu_of hr) (pv 2) (pv 3))) (pss_one (L2N.ps_raise rfl (L2N.takes_of rfl rfl rfl rfl) (pmk_err U.err U.iC U.tI U.ini (hr.mono (by decide)) U.bd pass0 rfl U.gC (pa_cons (pv 2) pa_nil)))) pss_nil)
      (pss_cons (ps_asg (pe_dget (hu_of hr) (pv 3) (pv 2) (fun _ _ => rfl)) (pg_any rfl (pgs_cons (pg_name (i := 8) scVal.nd rfl (Or.inl rfl)) (pgs_cons (pg_name (i := 9) scVal.nd rfl (Or.inl rfl)) pgs_nil))))
      (pss_cons (ps_dput (hu_of hr) (pv 5) (pv 2) (pe_call Z.yP.ok (hr.mono (by decide)) rfl Z.yP.g Z.yP.k Z.yP.b .nil pass0 (pa_cons (pv 8) (pa_cons (pe_dget (hu_of hr) (pv 4) (pv 2) (fun _ _ => rfl)) pa_nil))) rfl)
      (pss_cons (ps_dput (hu_of hr) (pv 6) (pv 2) (pe_call Z.yP.ok (hr.mono (by decide)) rfl Z.yP.g Z.yP.k Z.yP.b .nil pass0 (pa_cons (pv 9) (pa_cons (pe_dget (hu_of hr) (pv 4) (pv 2) (fun _ _ => rfl)) pa_nil))) rfl)
      (pss_one (ps_set (i := 7) scVal.nd rfl (Or.inl rfl) (pe_op op_mulW (pv 7) (pe_ix ix_list (pe_dget (hu_of hr) (pv 6) (pv 2) (fun _ _ => rfl)) (pe_un un_neg pe_int) (fun _ _ => rfl))))))))))
      (pss_cons (ps_set (i := 10) scVal.nd rfl (Or.inl rfl) pe_int)
      (pss_cons (ps_for (passes_of rfl) rfl (pi_seqB c (pv 0)) (pg_seqB b rfl (pgs_cons (pg_name (i := 11) scVal.nd rfl (Or.inl rfl)) (pgs_cons (pg_name (i := 12) scVal.nd rfl (Or.inl rfl)) pgs_nil))) (pss_cons (ps_set (i := 13) scVal.nd rfl (Or.inl rfl) (pv 12))
      (pss_cons (ps_set (i := 14) scVal.nd rfl (Or.inl rfl) pe_int)
      (pss_cons (ps_for (passes_of rfl) rfl (pi_seqB b (pv 11)) (pg_seqB b rfl (pgs_cons (pg_name (i := 2) scVal.nd rfl (Or.inl rfl)) (pgs_cons (pg_name (i := 15) scVal.nd rfl (Or.inl rfl)) pgs_nil))) (pss_cons (ps_set (i := 13) scVal.nd rfl (Or.inl rfl) (pe_op op_mulW (pv 13) (pe_ix ix_list (pe_dget (hu_of hr) (pv 5) (pv 2) (fun _ _ => rfl)) (pv 15) (fun _ _ => rfl))))
      (pss_one (ps_set (i := 14) scVal.nd rfl (Or.inl rfl) (pe_op op_mulW (pv 14) (pe_ix ix_list (pe_dget (hu_of hr) (pv 6) (pv 2) (fun _ _ => rfl)) (pv 15) (fun _ _ => rfl)))))))
      (pss_one (ps_set (i := 10) scVal.nd rfl (Or.inl rfl) (pe_op op_add (pv 10) (pe_op op_mulW (pv 13) (pe_op op_fdivW (pv 7) (pv 14))))))))))
      (pss_one (ps_ret (pe_call Z.yL.ok (hr.mono (by decide)) rfl Z.yL.g Z.yL.k Z.yL.b .nil pass0 (pa_cons (pv 10) (pa_cons (pv 7) pa_nil))))))))))))), ?_⟩
    obtain ⟨kp, ⟨vs, hvs, avs⟩, ndx, xl, nb, nm, l60, tp, le, e80, b9⟩ := hi
    have ok := tp.ok
    -- known
    refine seqB_go rfl hvs (fun kn nkn => ?_)
    have w0 := walk_seqB (K := K) (a := pa) (xs := vs) c'
    have lv : vs.length = xs.length := avs.1
    refine blk_n (o := fun _ => .dK []) (n := vs.length) (fun (i : Nat) (F : Hp) => Same H F ∧ ∃ R : List (Str × Addr), F kn = some (.dK (dR R)) ∧ R.map (·.1) = xs.take i ∧ ∀ x ∈ R, FracAt K F x.2 (n x.1) (d x.1))
      ⟨same_new nkn, [], upd_same, rfl, fun x hx => nomatch hx⟩ (fun i F hi ⟨s, _⟩ => w0.goes i F hi (Keeps.same s _ _ _ hvs)) (fun F ⟨s, _⟩ => w0.stops F (Keeps.same s _ _ _ hvs)) (fun i F x F' hi ⟨sF, R, hR, eR, fR⟩ hy => ?_) (fun F ⟨sF, R, hR, eR, fR⟩ => ?_)
    · obtain ⟨e', hv⟩ := w0.yields i F x F' hi (Keeps.same sF _ _ _ hvs) hy
      subst e'
      obtain ⟨y, hyx, b2, t, u, rfl, ht, hu⟩ := avs.get hv
      have yi : i < xs.length := (List.getElem?_eq_some_iff.mp hyx).1
      refine gany_go (Keeps.same sF _ _ _ ht) rfl ⟨_, _, rfl, _, _, rfl, rfl, rfl, ?_⟩
      have lR : R.length = i := by
        have := congrArg List.length eR
        rw [List.length_map, List.length_take] at this
        omega
      have ny : y ∉ R.map (·.1) := by
        rw [eR]
        intro q
        obtain ⟨j, hj⟩ := List.mem_iff_getElem?.mp q
        rw [List.getElem?_take] at hj
        split at hj
        · have := (List.getElem?_inj (List.getElem?_eq_some_iff.mp hj).1 ndx).mp (hj.trans hyx.symm)
          omega
        · cases hj
      refine ⟨_, rfl, _, rfl, _, Sum.inr y, rfl, hR, by rw [len_dR, sizeLine_eq]; omega, fun z o q => (upd_ne (ne_of_none q nkn)).trans (sF _ _ q), R ++ [(y, u)], ?_, ?_, fun z hz => ?_⟩
      · rw [upd_same, putK_dR ny]
      · rw [List.map_append, eR, take_snoc hyx]
        rfl
      · have up : ∀ {v : Addr} {n' d' : Int}, FracAt K F' v n' d' → FracAt K (upd F' kn (.dK (putK (dR R) (Sum.inr y) (.ref u)))) v n' d' := fun {v n' d'} ⟨b3, h3⟩ => ⟨b3, Keeps.oth (d := kn) (fun a o ne q => (upd_ne ne).trans q) hR _ _ _ h3⟩
        rcases List.mem_append.mp hz with q | q
        · exact up (fR z q)
        · rw [List.mem_singleton.mp q]
          exact up ⟨b2, Keeps.same sF _ _ _ hu⟩
    rw [lv, List.take_length] at eR
    have Rnd : (R.map (·.1)).Nodup := by rw [eR]; exact ndx
    -- degrees
    refine ⟨_, rfl, c, b, a, p, rfl, kp.keep (Keeps.same sF), ok.ge, tp.facs nm, fun hg D G1 s1 n1 hD dg => ?_⟩
    have Dl : (D.map (·.1)).length < 64 := by
      refine Nat.lt_of_le_of_lt (nodup_sub dg.nd fun x hx => ?_) (by omega : L.length < 64)
      obtain ⟨f, hf, rfl⟩ := (dg.keys x).mp hx
      obtain ⟨t, ht, q⟩ := mem_facs.mp hf
      exact (tp.at_ t ht f q).1
    refine fun ta nta tb ntb => ?_
    have nab : ta ≠ tb := fun e => by rw [← e, upd_same] at ntb; cases ntb
    have noT : ∀ b o, H b = some o → b ≠ ta ∧ b ≠ tb := fun b o hb => by
      have q := (sF.trans s1) _ _ hb
      have e1 : b ≠ ta := fun z => by rw [z, nta] at q; cases q
      exact ⟨e1, fun z => by rw [← z, upd_ne e1, q] at ntb; cases ntb⟩
    have s2 := (same_new (o := .dK []) nta).trans (same_new (o := .dK []) ntb)
    have hR1 := s1 _ _ hR
    have kta : kn ≠ ta := fun z => by rw [z, nta] at hR1; cases hR1
    have ktb : kn ≠ tb := fun z => by rw [← z, upd_ne kta, hR1] at ntb; cases ntb
    have hta : hg ≠ ta := fun z => by unfold DictS at hD; rw [z, nta] at hD; cases hD
    have htb : hg ≠ tb := fun z => by unfold DictS at hD; rw [← z, upd_ne hta, hD] at ntb; cases ntb
    refine ⟨_, rfl, hg, _, D.map (·.1), rfl, .inl (s2 _ _ hD), keys_mpS D, Dl, fun ys l pm so nl => ?_⟩
    have s3 := s2.trans (same_new (o := .lst (ys.map V.str)) nl)
    have sF := (sF.trans s1).trans s3
    have hh := s3 _ _ hD
    have hk := (s1.trans s3) _ _ hR
    have tA := same_new (o := .lst (ys.map V.str)) nl _ _ ((upd_ne (o := .dK []) nab).trans (upd_same (H := G1) (a := ta) (o := .dK [])))
    have tB := same_new (o := .lst (ys.map V.str)) nl _ _ (upd_same (H := upd G1 ta (.dK [])) (a := tb) (o := .dK []))
    have hl : (upd (upd (upd G1 ta (.dK [])) tb (.dK [])) l (.lst (ys.map V.str))) l = _ := upd_same
    have fR : ∀ x ∈ R, FracAt K _ x.2 (n x.1) (d x.1) := fun x hx => (fR x hx).imp fun b3 h3 => Keeps.same (s1.trans s3) _ _ _ h3
    have ha2 : (upd (upd (upd G1 ta (.dK [])) tb (.dK [])) l (.lst (ys.map V.str))) ta ≠ none := by rw [tA]; exact fun z => nomatch z
    generalize upd (upd (upd G1 ta (.dK [])) tb (.dK [])) l (.lst (ys.map V.str)) = F2 at tA tB hl fR hh hk sF ha2 ⊢
    have ndy : ys.Nodup := pm.nodup_iff.mpr dg.nd
    have inD : ∀ y ∈ ys, ∃ f ∈ facs p, f.1 = y ∧ f.2 = getT D y := fun y hy => dg.at_ y (pm.mem_iff.mp hy)
    have ly : ys.length < 64 := by rw [pm.length_eq]; exact Dl
    have hE : ∀ y ∈ ys, y ∈ L ∧ (getT D y).toNat ≤ e ∧ 0 ≤ getT D y := fun y hy => by
      obtain ⟨f, hf, q1, q2⟩ := inD y hy
      obtain ⟨t, ht, q⟩ := mem_facs.mp hf
      have := tp.at_ t ht f q
      have := ok.ge f hf
      rw [← q1, ← q2, q1] at *
      exact ⟨by rw [← q1]; exact (tp.at_ t ht f q).1, by omega, by omega⟩
    have ysL : ys.length ≤ L.length := nodup_sub ndy fun y hy => (hE y hy).1
    have sum80 : ∀ i, sumN (ys.take i) (fun x => (getT D x).toNat) ≤ 80 := fun i => by
      have h1 := sumN_take (fun x => (getT D x).toNat) ys i
      have h2 := sumN_const (f := fun x => (getT D x).toNat) (e := e) (ns := ys) fun y hy => (hE y hy).2.1
      have h3 := Nat.mul_le_mul_right e ysL
      omega
    refine ⟨_, rfl, ⟨_, SqL.of hl⟩, ?_⟩
    refine for_it (walk_list (K := K) (a := l) (xs := ys.map V.str)) (fun i σ G => ∃ (u2 u8 u9 : Option V) (Rt Rb : List (Str × Addr)), σ = [some (.ref a), some (.ref pa), u2, some (.ref kn), some (.ref hg), some (.ref ta), some (.ref tb), some (.int (evX d (ys.take i) fun x => (getT D x).toNat)), u8, u9, none, none, none, none, none, none, none] ∧ Oth2 ta tb F2 G ∧ PowD G ta n (fun x => (getT D x).toNat) Rt (ys.take i) ∧ PowD G tb d (fun x => (getT D x).toNat) Rb (ys.take i) ∧ ∀ x ∈ ys.take i, x ∈ xs)
      ⟨_, _, _, [], [], rfl, Oth2.refl, .nil tA, .nil tB, fun x hx => by rw [List.take_zero] at hx; cases hx⟩ (fun i σ G _ ⟨_, _, _, _, _, _, o, _⟩ => o.keeps tA tB true _ _ (SqL.of hl)) (fun i x σ G G' hi ⟨u2, u8, u9, Rt, Rb, hσ, o, pT, pB, iX⟩ ⟨e', hv⟩ => ?_) (fun σ G ⟨u2, u8, u9, Rt, Rb, hσ, o, pT, pB, iX⟩ => ?_)
    · subst hσ e'
      rw [List.getElem?_map] at hv
      obtain ⟨y, hy, rfl⟩ := Option.map_eq_some_iff.mp hv
      have my : y ∈ ys := List.mem_of_getElem? hy
      have hkG := o _ _ kta ktb hk
      have hgG := o _ _ hta htb hh
      by_cases yX : y ∈ xs
      case neg =>
        have nk : valV (dR R) (Sum.inr y) = none := valV_dR_none (by rw [eR]; exact yX)
        have yz : y = zz := by
          obtain ⟨⟨f1, hf1, e1⟩, zX, fst⟩ := lk
          obtain ⟨f2, hf2, e2, _⟩ := inD y my
          have nlt := fst f2 hf2 (by rw [e2]; exact yX)
          rw [e2] at nlt
          have zy : zz ∈ ys := pm.mem_iff.mpr ((dg.keys zz).mpr ⟨f1, hf1, e1⟩)
          obtain ⟨j, hj⟩ := List.mem_iff_getElem?.mp zy
          have up := up_sorted so ndy
          rcases Nat.lt_trichotomy j i with h | h | h
          · exact absurd (iX zz (List.mem_iff_getElem?.mpr ⟨j, by rw [List.getElem?_take, if_pos h]; exact hj⟩)) zX
          · rw [h, hy] at hj
            exact Option.some.inj hj
          · obtain ⟨l1, r1⟩ := List.getElem?_eq_some_iff.mp hj
            obtain ⟨l2, r2⟩ := List.getElem?_eq_some_iff.mp hy
            have := (List.pairwise_iff_getElem.mp up) i j l2 l1 h
            rw [r1, r2] at this
            exact absurd this nlt
        refine ⟨_, rfl, _, rfl, kn, _, rfl, DGet.k (k := Sum.inr y) hkG, ?_⟩
        rw [nk]
        refine ⟨_, rfl, Eq.mpr (if_pos rfl) ?_⟩
        rw [yz]
        show tErr C (spIniT K C) (tCons (tVar 2) tNil) _ G' _
        exact ⟨_, rfl, err_readT (σ := []) U lz fun dd nd => rz G' dd (fun b ob hb => o _ _ (noT _ _ hb).1 (noT _ _ hb).2 (sF _ _ hb)) nd⟩
      obtain ⟨z, zR, zy⟩ := List.mem_map.mp (show y ∈ R.map (·.1) by rw [eR]; exact yX)
      have vz := valV_dR Rnd (x := z.1) (a := z.2) zR
      obtain ⟨b3, fz⟩ := fR z zR
      rw [zy] at vz fz
      obtain ⟨yL, ye, y0⟩ := hE y my
      obtain ⟨n100, d0, d100⟩ := nb y yX
      have vD : valV (mpT eS D) (eS y) = some (.int (((getT D y).toNat : Nat) : Int)) := by
        rw [valV_mpT eS_inj, Int.toNat_of_nonneg y0]
        unfold getT
        cases hv : valT D y with
        | none => exact absurd (pm.mem_iff.mp my) (valT_none.mp hv)
        | some v => rfl
      refine ⟨_, rfl, _, rfl, kn, _, rfl, DGet.k (k := Sum.inr y) hkG, ?_⟩
      rw [vz]
      refine ⟨_, rfl, Eq.mpr (if_neg Bool.false_ne_true) ?_⟩
      refine ⟨_, rfl, _, rfl, kn, _, rfl, by rw [← vz]; exact DGet.k (k := Sum.inr y) hkG, ?_⟩
      refine gany_go (o.keeps tA tB _ _ _ fz) rfl ⟨_, _, rfl, _, _, rfl, rfl, ?_⟩
      have p80 : (getT D y).toNat ≤ 80 := by omega
      have gH : DGet G' hg (.str y) (some (.int (((getT D y).toNat : Nat) : Int))) := by
        rw [← vD]
        exact DGet.k (k := eS y) hgG
      have ny : y ∉ ys.take i := fun q => by
        obtain ⟨j, hj⟩ := List.mem_iff_getElem?.mp q
        rw [List.getElem?_take] at hj
        split at hj
        · have := (List.getElem?_inj (List.getElem?_eq_some_iff.mp hj).1 ndy).mp (hj.trans hy.symm)
          omega
        · cases hj
      have li : (ys.take i).length < sizeLine := by
        rw [List.length_take, sizeLine_eq]
        omega
      refine ⟨_, rfl, _, rfl, _, rfl, hg, _, rfl, gH, n y, (getT D y).toNat, rfl, n100, p80, fun a1 A0 q1 na1 ha1 => ?_⟩
      have pT0 := pT.same q1
      have pB0 := pB.same q1
      refine ⟨_, rfl, _, rfl, ta, _, rfl, DPut.k (k := Sum.inr y) pT0.at_ (by rw [pT0.len]; exact li), ?_⟩
      have pT1 := pT0.put ny ha1
      have pB1 := pB0.oth (db := ta) (G' := upd A0 ta (.dK (putK (dR Rt) (Sum.inr y) (.ref a1)))) Oth.put pT0.at_ (Ne.symm nab)
      have o1 := (o.same q1).put1 (o := .dK (putK (dR Rt) (Sum.inr y) (.ref a1)))
      have gH1 := o1 _ _ hta htb hh
      generalize upd A0 ta (.dK (putK (dR Rt) (Sum.inr y) (.ref a1))) = A1 at pT1 pB1 o1 gH1 ⊢
      refine ⟨_, rfl, _, rfl, _, rfl, hg, _, rfl, by rw [← vD]; exact DGet.k (k := eS y) gH1, d y, (getT D y).toNat, rfl, d100, p80, fun a2 A2 q2 na2 ha2 => ?_⟩
      have pT2 := pT1.same q2
      have pB2 := pB1.same q2
      refine ⟨_, rfl, _, rfl, tb, _, rfl, DPut.k (k := Sum.inr y) pB2.at_ (by rw [pB2.len]; exact li), ?_⟩
      have pB3 := pB2.put ny ha2
      have pT3 := pT2.oth (db := tb) (G' := upd A2 tb (.dK (putK (dR Rb) (Sum.inr y) (.ref a2)))) Oth.put pB2.at_ nab
      have o3 := (o1.same q2).put2 (o := .dK (putK (dR Rb) (Sum.inr y) (.ref a2)))
      generalize upd A2 tb (.dK (putK (dR Rb) (Sum.inr y) (.ref a2))) = A3 at pT3 pB3 o3 ⊢
      have ts : ys.take (i + 1) = ys.take i ++ [y] := take_snoc hy
      have ndi : (ys.take i ++ [y]).Nodup := by rw [← ts]; exact ndy.sublist (List.take_sublist _ _)
      obtain ⟨a3, v3, h3⟩ := pB3.val ndi (x := y) (by simp)
      have gv : DGet A3 tb (.str y) (some (.ref a3)) := by
        rw [← v3]
        exact DGet.k (k := Sum.inr y) pB3.at_
      have ne : evX d (ys.take (i + 1)) (fun x => (getT D x).toNat) = evX d (ys.take i) (fun x => (getT D x).toNat) * d y ^ (getT D y).toNat := by rw [ts, evX_snoc]
      refine ⟨_, rfl, _, rfl, _, rfl, tb, _, rfl, gv, _, rfl, a3, _, _, _, rfl, rfl, SqL.of h3, powV_last _ _, _, _, rfl, rfl, wide_mul (a := 8001) (b := 8001) ?_ (pow_bits d100 p80) (by decide) (by decide) (by decide), ?_⟩
      · refine Nat.lt_of_le_of_lt (evX_abs fun x hx => (nb x (iX x hx)).2.2) (Nat.pow_lt_pow_right (by decide) ?_)
        have := sum80 i
        omega
      · refine ⟨some (.str y), some (.int (n y)), some (.int (d y)), Rt ++ [(y, a1)], Rb ++ [(y, a2)], ?_, o3, by rw [ts]; exact pT3, by rw [ts]; exact pB3, fun x hx => by rw [ts] at hx; exact (List.mem_append.mp hx).elim (iX x) fun q => by rw [List.mem_singleton.mp q]; exact yX⟩
        rw [ne]
        rfl
    · obtain ⟨⟨f1, hf1, e1⟩, zX, fst⟩ := lk
      rw [List.length_map, List.take_length] at iX
      exact absurd (iX zz (pm.mem_iff.mpr ((dg.keys zz).mpr ⟨f1, hf1, e1⟩))) zX
end
end K5

set_option Elab.async false
set_option linter.all false
set_option maxRecDepth 100000
set_option maxHeartbeats 8000000
set_option autoImplicit false
set_option pp.maxSteps 600
set_option exponentiation.threshold 1000
/-! The law's own numbers: a divisor, lowest terms, powers, fractions. -/
namespace K5
open PySem L2 K1D K2P K3
open K1P (Raises okN)
abbrev sDiv : Stmt := K2P.top 41
abbrev sLLow : Stmt := K2P.top 42
abbrev sOwn : Stmt := K2P.top 44
abbrev sFrac : Stmt := K2P.top 43
/-! ### maths -/
theorem eu_step {h l B i : Nat} (hl : l < h) (l0 : 0 < l) (b : h * l * 2 ^ i < B) : h % l < l ∧ l * (h % l) * 2 ^ (i + 1) < B := by
  have r := Nat.mod_lt h l0
  refine ⟨r, Nat.lt_of_le_of_lt ?_ b⟩
  have e := Nat.div_add_mod h l
  have q : 1 ≤ h / l := (Nat.one_le_div_iff l0).mpr (Nat.le_of_lt hl)
  have r2 : 2 * (h % l) ≤ h := by
    have := Nat.mul_le_mul_left l q
    omega
  rw [Nat.pow_succ, Nat.mul_comm (2 ^ i) 2, ← Nat.mul_assoc]
  refine Nat.mul_le_mul_right _ ?_
  rw [Nat.mul_assoc, Nat.mul_comm (h % l) 2, Nat.mul_comm h l]
  exact Nat.mul_le_mul_left l r2
theorem eu_end {h l k i : Nat} (hl : l < h) (b : h * l * 2 ^ i < 2 ^ k) (ik : k ≤ i) : l = 0 := by
  refine Classical.byContradiction fun z => ?_
  have h1 : 1 ≤ h * l := Nat.mul_pos (by omega) (by omega)
  have := Nat.mul_le_mul_right (2 ^ i) h1
  have := Nat.pow_le_pow_right (n := 2) (by decide) ik
  omega
structure EuI (g a w i h l : Nat) : Prop where
  gcd : Nat.gcd h l = g
  st : (i = 0 ∧ h = a ∧ l = w) ∨ ∃ j, i = j + 1 ∧ l < h ∧ h * l * 2 ^ j < 2 ^ 17800
theorem EuI.step {g a w i h l : Nat} (e : EuI g a w i h l) (l0 : 0 < l) (w9 : w < 2 ^ 8900) : EuI g a w (i + 1) l (h % l) := by
  refine ⟨by rw [← e.gcd, Nat.gcd_comm l (h % l), Nat.gcd_comm h l]; exact (Nat.gcd_rec l h).symm, .inr ?_⟩
  rcases e.st with ⟨i0, ha, hw⟩ | ⟨j, ij, lh, b⟩
  · have r := Nat.mod_lt h l0
    refine ⟨i, rfl, r, ?_⟩
    rw [i0, Nat.pow_zero, Nat.mul_one, show (17800 : Nat) = 8900 + 8900 from rfl, Nat.pow_add]
    rw [← hw] at w9
    generalize 2 ^ 8900 = B at w9 ⊢
    exact Nat.mul_lt_mul'' w9 (Nat.lt_trans r w9)
  · obtain ⟨r, s⟩ := eu_step lh l0 b
    exact ⟨i, rfl, r, by rw [ij]; exact s⟩
theorem EuI.done {g a w h l : Nat} (e : EuI g a w 30000 h l) : l = 0 := by
  rcases e.st with ⟨i0, _⟩ | ⟨j, ij, lh, b⟩
  · cases i0
  · exact eu_end lh b (by omega)
def spDiv : Sp := fun vs H Q _ => ∃ (T : Int) (W : Nat), vs = [.int T, .int W] ∧ W ≠ 0 ∧ W < 2 ^ 8900 ∧ Q (.int (Nat.gcd T.natAbs W : Nat)) H
def spOwn : Sp := fun vs H Q _ => ∃ (z : Int) (k : Nat), vs = [.int z, .int k] ∧ z.natAbs < 2 ^ 100 ∧ k ≤ 80 ∧ Q (.int (z ^ k)) H
def spFrac : Sp := fun vs H Q _ => ∃ (p l : Addr), vs = [.ref p] ∧ TapeL H p l ∧ ∀ (t : Addr) (n d : Int) (G : Hp), TapeL G p l → But p H G → G t = some (.tup [.int n, .int d]) → n.natAbs < 2 ^ 100 → 0 < d → d.natAbs < 2 ^ 100 → Q (.ref t) G
section
variable {P : Program} {w : World} {K : PySem.W.Frag} {mg : Str → Option Value} {base : Heap} {fD fV fL : Addr} {dD dV dL : FuncData}
theorem scDiv : FnScope ["one", "two", "high", "low", "turn", "rest"] ["one", "two"] (defScope sDiv) := ⟨rfl, rfl, rfl, by decide +kernel, rfl, by decide +kernel, by decide +kernel⟩
theorem scLLow : FnScope ["top", "bottom", "shared"] ["top", "bottom"] (defScope sLLow) := ⟨rfl, rfl, rfl, by decide +kernel, rfl, by decide +kernel, by decide +kernel⟩
theorem scOwn : FnScope ["number", "exponent", "product", "turn"] ["number", "exponent"] (defScope sOwn) := ⟨rfl, rfl, rfl, by decide +kernel, rfl, by decide +kernel, by decide +kernel⟩
theorem scFrac : FnScope ["tape", "way", "size", "top"] ["tape"] (defScope sFrac) := ⟨rfl, rfl, rfl, by decide +kernel, rfl, by decide +kernel, by decide +kernel⟩
theorem ok_div {f : Addr} {fd : FuncData} (F : Fun K "_law_divisor" "_law_divisor" sDiv f fd) (max : mg "max" = none) (rng : mg "range" = none) (int : mg "int" = none) : FnOk P w K mg base CX0 1 f fd ["one", "two"] spDiv := by
  refine F.ok scDiv (fun vs H Q E h => ?_) (fun cdv A outer s H vs Q E hr h => ?_)
  · obtain ⟨T, W, rfl, _⟩ := h
    rfl
  · obtain ⟨T, W, rfl, w0, w9, go⟩ := h
    refine ⟨_, (pss_cons (ps_set (i := 2) scDiv.nd rfl (Or.inl rfl) (pe_callB (call_max2 rfl) (by rfl) max (by decide +kernel) (pa_cons (pv 0) (pa_cons (pe_op op_sub pe_int (pv 0)) pa_nil))))
      (pss_cons (ps_set (i := 3) scDiv.nd rfl (Or.inl rfl) (pv 1))
      (pss_cons (ps_for PassesOwn.never rfl (pi_range1 (by rfl) rng (pa_cons pe_int pa_nil)) (pg_name (i := 4) scDiv.nd rfl (Or.inl rfl)) (pss_cons (ps_if (pt_cmpR op_eq (pv 3) pe_int (nomark _)) (pss_one ps_break) pss_nil)
      (pss_cons (ps_set (i := 5) scDiv.nd rfl (Or.inl rfl) (pe_op op_mod (pe_callTy call_int1 (by rfl) int (by decide +kernel) (pa_cons (pv 2) pa_nil)) (pv 3)))
      (pss_cons (ps_set (i := 2) scDiv.nd rfl (Or.inl rfl) (pv 3))
      (pss_one (ps_set (i := 3) scDiv.nd rfl (Or.inl rfl) (pv 5)))))))
      (pss_one (ps_ret (pv 2)))))), ?_⟩
    have mx : (if (0 : Int) - T > T then 0 - T else T) = ((T.natAbs : Nat) : Int) := by split <;> omega
    refine ⟨_, rfl, _, rfl, _, _, rfl, rfl, _, _, rfl, ?_⟩
    rw [mx]
    refine ⟨_, rfl, 30000, rfl, by decide, by decide, for_range (lo := 0) (n := 30000) (fun (i : Nat) (σ : L2.St) (G : Hp) => ∃ (h l : Nat) (u4 u5 : Option V), σ = [some (.int T), some (.int (W : Int)), some (.int (h : Int)), some (.int (l : Int)), u4, u5] ∧ G = H ∧ EuI (Nat.gcd T.natAbs W) T.natAbs W i h l) ⟨_, W, _, _, rfl, rfl, rfl, .inl ⟨rfl, rfl, rfl⟩⟩ (fun i σ G hi ⟨h, l, u4, u5, hσ, hG, e⟩ => ?_) (fun σ G ⟨h, l, u4, u5, hσ, hG, e⟩ => ?_)⟩
    · subst hσ hG
      refine ⟨_, rfl, rfl, _, rfl, ?_⟩
      refine ite2 (fun c => ?_) (fun c => ?_)
      · have l0 : l = 0 := by
          have := V.int.inj (of_decide_eq_true c)
          omega
        have g := e.gcd
        rw [l0, Nat.gcd_zero_right] at g
        rw [← g] at go
        exact ⟨_, rfl, go⟩
      · have l0 : 0 < l := by
          refine Nat.pos_of_ne_zero fun z => c ?_
          rw [z]
          exact decide_eq_true rfl
        refine ⟨_, rfl, .inl ⟨_, rfl, _, rfl, _, _, rfl, rfl, by omega, _, rfl, _, rfl, ?_⟩⟩
        exact ⟨l, h % l, _, _, rfl, rfl, e.step l0 w9⟩
    · subst hσ hG
      have l0 := e.done
      have g := e.gcd
      rw [l0, Nat.gcd_zero_right] at g
      rw [g]
      exact ⟨_, rfl, go⟩
theorem ok_llow {f : Addr} {fd : FuncData} (F : Fun K "_law_lowest" "_law_lowest" sLLow f fd) (Z : CallT P w K mg base CX0 1 "_law_divisor" ["one", "two"] spDiv fV dV) : FnOk P w K mg base CX0 2 f fd ["top", "bottom"] spLow := by
  refine F.ok scLLow (fun vs H Q E h => ?_) (fun cdv A outer s H vs Q E hr h => ?_)
  · obtain ⟨T, W, rfl, _⟩ := h
    rfl
  · obtain ⟨T, W, rfl, w0, w9, go⟩ := h
    refine ⟨_, (pss_cons (ps_set (i := 2) scLLow.nd rfl (Or.inl rfl) (pe_call Z.ok (hr.mono (by decide)) rfl Z.g Z.k Z.b .nil pass0 (pa_cons (pv 0) (pa_cons (pv 1) pa_nil))))
      (pss_one (ps_ret (pe_tup (pa_cons (pe_op op_fdivW (pv 0) (pv 2)) (pa_cons (pe_op op_fdivW (pv 1) (pv 2)) pa_nil)))))), ?_⟩
    have gp : 0 < Nat.gcd T.natAbs W := Nat.gcd_pos_of_pos_right _ (Nat.pos_of_ne_zero w0)
    have gl : Nat.gcd T.natAbs W ≤ W := Nat.gcd_le_right _ (Nat.pos_of_ne_zero w0)
    obtain ⟨e1, e2⟩ := mk_low (T := T) w0
    refine ⟨_, rfl, _, rfl, T, W, rfl, w0, w9, ?_⟩
    have dv : ∀ c : Int, CDivW c ((Nat.gcd T.natAbs W : Nat) : Int) := fun c => wide_div (by omega) (b := 8900) (by rw [Int.natAbs_natCast]; omega) (by decide) (by decide)
    refine ⟨_, rfl, _, rfl, _, _, rfl, rfl, dv _, _, rfl, _, rfl, _, _, rfl, rfl, dv _, by show 2 ≤ sizeLine; decide, fun t nt => go t _ (same_new nt) ?_⟩
    rw [upd_same, e1, e2]
    rfl
theorem ok_own {f : Addr} {fd : FuncData} (F : Fun K "_law_own_raised" "_law_own_raised" sOwn f fd) (rng : mg "range" = none) : FnOk P w K mg base CX0 1 f fd ["number", "exponent"] spOwn := by
  refine F.ok scOwn (fun vs H Q E h => ?_) (fun cdv A outer s H vs Q E hr h => ?_)
  · obtain ⟨z, k, rfl, _⟩ := h
    rfl
  · obtain ⟨z, k, rfl, hz, k8, go⟩ := h
    refine ⟨_, (pss_cons (ps_set (i := 2) scOwn.nd rfl (Or.inl rfl) pe_int)
      (pss_cons (ps_for PassesOwn.never rfl (pi_range1 (by rfl) rng (pa_cons (pv 1) pa_nil)) (pg_name (i := 3) scOwn.nd rfl (Or.inl rfl)) (pss_one (ps_set (i := 2) scOwn.nd rfl (Or.inl rfl) (pe_op op_mulW (pv 2) (pv 0)))))
      (pss_one (ps_ret (pv 2))))), ?_⟩
    refine ⟨_, rfl, _, rfl, by omega, by omega, for_range (lo := 0) (n := ((k : Nat) : Int).toNat) (fun (i : Nat) (σ : L2.St) (G : Hp) => ∃ u3 : Option V, σ = [some (.int z), some (.int (k : Int)), some (.int (z ^ i)), u3] ∧ G = H) ⟨none, by rw [Int.pow_zero]; rfl, rfl⟩ (fun i σ G hi ⟨u3, hσ, hG⟩ => ?_) (fun σ G ⟨u3, hσ, hG⟩ => ?_)⟩
    · subst hσ hG
      rw [Int.toNat_natCast] at hi
      refine ⟨_, rfl, _, rfl, _, _, rfl, rfl, wide_mul (pow_bits hz (by omega)) hz (by decide) (by decide) (by decide), some (.int (0 + (i : Int))), ?_, rfl⟩
      rw [Int.pow_succ]
      rfl
    · subst hσ hG
      rw [Int.toNat_natCast]
      exact ⟨_, rfl, go⟩
theorem ok_frac {f : Addr} {fd : FuncData} (F : Fun K "_law_fraction" "_law_fraction" sFrac f fd) (Z : DrawTxt P w K mg base fD dD) (U : CallT P w K mg base CX0 2 "_law_lowest" ["top", "bottom"] spLow fL dL) : FnOk P w K mg base CX0 3 f fd ["tape"] spFrac := by
  refine F.ok scFrac (fun vs H Q E h => ?_) (fun cdv A outer s H vs Q E hr h => ?_)
  · obtain ⟨p, l, rfl, _⟩ := h
    rfl
  · obtain ⟨p, l, rfl, hf, go⟩ := h
    refine ⟨_, (pss_cons (ps_set (i := 1) scFrac.nd rfl (Or.inl rfl) (pe_call Z.d.ok (hr.mono (by decide)) rfl Z.d.g Z.d.k Z.d.b .nil pass0 (pa_cons (pv 0) (pa_cons pe_int pa_nil))))
      (pss_cons (ps_if (pt_cmpR op_lt (pv 1) pe_int (nomark _)) (pss_one (ps_ret (pe_tup (pa_cons (pe_op op_sub (pe_call Z.d.ok (hr.mono (by decide)) rfl Z.d.g Z.d.k Z.d.b .nil pass0 (pa_cons (pv 0) (pa_cons pe_int pa_nil))) pe_int) (pa_cons pe_int pa_nil))))) pss_nil)
      (pss_cons (ps_set (i := 2) scFrac.nd rfl (Or.inl rfl) (pe_ix ix_list (pe_lst (pa_cons pe_int (pa_cons pe_int (pa_cons pe_int (pa_cons (pe_op op_pow pe_int pe_int) pa_nil))))) (pe_op op_sub (pv 1) pe_int) (fun _ _ => rfl)))
      (pss_cons (ps_set (i := 3) scFrac.nd rfl (Or.inl rfl) (pe_op op_sub (pe_call Z.d.ok (hr.mono (by decide)) rfl Z.d.g Z.d.k Z.d.b .nil pass0 (pa_cons (pv 0) (pa_cons (pv 2) pa_nil))) (pe_op op_fdiv (pv 2) pe_int)))
      (pss_one (ps_ret (pe_call U.ok (hr.mono (by decide)) rfl U.g U.k U.b .nil pass0 (pa_cons (pv 3) (pa_cons (pe_op op_add pe_int (pe_call Z.d.ok (hr.mono (by decide)) rfl Z.d.g Z.d.k Z.d.b .nil pass0 (pa_cons (pv 0) (pa_cons (pv 2) pa_nil)))) pa_nil))))))))), ?_⟩
    have c6 : ((6 : Int)).natAbs < 2 ^ 8000 := b8000 (n := 10) (by decide) (by decide)
    have c9 : ((9 : Int)).natAbs < 2 ^ 8000 := b8000 (n := 10) (by decide) (by decide)
    refine ⟨_, rfl, p, l, 6, rfl, hf, c6, fun y G1 y0 y1 f1 b1 => ?_⟩
    refine ⟨_, rfl, _, _, rfl, rfl, _, rfl, ?_⟩
    refine ite2 (fun _ => ?_) (fun hc => ?_)
    · refine ⟨_, rfl, p, l, 9, rfl, f1, c9, fun x G2 x0 x1 f2 b2 => ?_⟩
      refine ⟨_, _, rfl, rfl, by show 2 ≤ sizeLine; decide, fun t nt => ?_⟩
      have b8 : (2 : Nat) ^ 10 < 2 ^ 100 := Nat.pow_lt_pow_right (by decide) (by decide)
      exact go t _ 1 _ (f2.up nt) ((b1.trans b2).trans (But.new nt)) upd_same (Nat.lt_of_le_of_lt (by omega) b8) (by decide) (Nat.lt_of_le_of_lt (by decide) b8)
    · have hc : ¬ y < 2 := fun q => hc (decide_eq_true q)
      refine ⟨_, _, rfl, rfl, ⟨by decide, by decide, by decide⟩, by show 4 ≤ sizeLine; decide, fun q nq => ?_⟩
      have qp := (f1.none nq).1
      have f2 := f1.up (o := .lst [.int 6, .int 6, .int 1000, .int (10 ^ (28 : Int).toNat)]) nq
      have b2 : But p H (upd G1 q (.lst [.int 6, .int 6, .int 1000, .int (10 ^ (28 : Int).toNat)])) := b1.trans (But.new nq)
      have e2 : upd G1 q (.lst [.int 6, .int 6, .int 1000, .int (10 ^ (28 : Int).toNat)]) q = some (.lst [.int 6, .int 6, .int 1000, .int (10 ^ (28 : Int).toNat)]) := upd_same
      generalize upd G1 q (.lst [.int 6, .int 6, .int 1000, .int (10 ^ (28 : Int).toNat)]) = G2 at f2 b2 e2 ⊢
      have e28 : ∃ m : Nat, ((10 : Int) ^ (28 : Int).toNat) = m ∧ 6 ≤ m ∧ m < 2 ^ 99 := ⟨10 ^ 28, by decide +kernel, by decide +kernel, by decide +kernel⟩
      obtain ⟨m, em, m6, m99⟩ := e28
      obtain ⟨j, rfl⟩ : ∃ j : Nat, y = j + 2 := ⟨(y - 2).toNat, by omega⟩
      have hj : j < 4 := by omega
      have b99 : (1000 : Nat) < 2 ^ 99 := by decide +kernel
      have hv : ∃ kw : Nat, ([.int 6, .int 6, .int 1000, .int (10 ^ (28 : Int).toNat)] : List V)[j]? = some (.int (kw : Int)) ∧ 6 ≤ kw ∧ kw < 2 ^ 99 := by
        match j, hj with
        | 0, _ => exact ⟨6, rfl, by decide, by omega⟩
        | 1, _ => exact ⟨6, rfl, by decide, by omega⟩
        | 2, _ => exact ⟨1000, rfl, by decide, by omega⟩
        | 3, _ => exact ⟨m, (by rw [em]; rfl), m6, m99⟩
      obtain ⟨kw, hkw, k1, k2⟩ := hv
      have kb : ((kw : Nat) : Int).natAbs < 2 ^ 8000 := b8000 (n := 99) (by rw [Int.natAbs_natCast]; exact k2) (by decide)
      refine ⟨_, rfl, _, _, rfl, rfl, q, _, _, _, rfl, rfl, SqL.of e2, by rw [show (j : Int) + 2 - 2 = (j : Int) by omega]; exact atI_nat hkw, ?_⟩
      refine ⟨_, rfl, _, rfl, p, l, kw, rfl, f2, kb, fun x G3 x0 x1 f3 b3 => ?_⟩
      refine ⟨_, rfl, _, _, rfl, rfl, ⟨by decide, by decide⟩, _, _, rfl, rfl, ?_⟩
      refine ⟨_, rfl, _, rfl, _, rfl, p, l, kw, rfl, f3, kb, fun u G4 u0 u1 f4 b4 => ?_⟩
      obtain ⟨v, rfl⟩ : ∃ v : Nat, u = v := ⟨u.toNat, by omega⟩
      have w9 : 1 + v < 2 ^ 100 := by
        rw [show (100 : Nat) = 99 + 1 from rfl, Nat.pow_succ]
        omega
      have tb : (x - (kw : Int) / 3).natAbs < 2 ^ 100 := by
        rw [show (100 : Nat) = 99 + 1 from rfl, Nat.pow_succ]
        omega
      have w1 : 1 + v ≠ 0 := by omega
      refine ⟨_, _, rfl, rfl, x - (kw : Int) / 3, 1 + v, by rw [Int.natCast_add]; rfl, w1, Nat.lt_trans w9 (Nat.pow_lt_pow_right (by decide) (by decide)), fun t G5 s5 h5 => ?_⟩
      refine go t _ _ G5 (f4.same s5) ((((b2.trans b3).trans b4)).trans (But.same s5)) h5 (Nat.lt_of_le_of_lt (mk_num_le _ w1) tb) ?_ ?_
      · have := (mkRat (x - (kw : Int) / 3) (1 + v)).den_pos
        omega
      · rw [Int.natAbs_natCast]
        exact Nat.lt_of_le_of_lt (mk_den_le _ w1) w9
end
end K5

set_option Elab.async false
set_option linter.all false
set_option maxRecDepth 100000
set_option maxHeartbeats 8000000
set_option autoImplicit false
set_option pp.maxSteps 600
set_option exponentiation.threshold 1000
/-! The law's own reckoning of a value. -/
namespace K5
open PySem L2 K1D K2P K3
abbrev sReck : Stmt := K2P.top 45
theorem upd_back {H : Hp} {a : Addr} {o u : HO} (h : H a = some u) : upd (upd H a o) a u = H := by
  rw [upd_upd]
  funext b
  unfold upd
  split
  · rename_i e
    rw [e, h]
  · rfl
theorem getT_exM {m : Mon} (mo : MonOk m) (y : Str) : getT m y = ((exM m y : Nat) : Int) := by
  by_cases q : ∃ f ∈ m, f.1 = y
  · obtain ⟨f, hf, rfl⟩ := q
    rw [exM_at mo.nd hf]
    have := mo.ge f hf
    unfold getT
    rw [(valT_mem mo.nd).mpr (show (f.1, f.2) ∈ m from hf)]
    show f.2 = _
    omega
  · rw [exM_out fun f hf e => q ⟨f, hf, e⟩]
    unfold getT
    rw [valT_none.mpr fun h => q (List.mem_map.mp h)]
    rfl
/-- at sp the fractions of the names ns -/
structure SpotD (H : Hp) (sp : Addr) (n d : Str → Int) (R : List (Str × Addr)) (ns : List Str) : Prop where
  at_ : H sp = some (.dK (dR R))
  ks : R.map (·.1) = ns
  ls : ∀ x ∈ R, H x.2 = some (.tup [.int (n x.1), .int (d x.1)])
  nd : ns.Nodup
  b : ∀ x ∈ ns, (n x).natAbs < 2 ^ 100 ∧ 0 < d x ∧ (d x).natAbs < 2 ^ 100
theorem SpotD.val {H : Hp} {sp : Addr} {n d : Str → Int} {R : List (Str × Addr)} {ns : List Str} (p : SpotD H sp n d R ns) {x : Str} (hx : x ∈ ns) : ∃ a, DGet H sp (.str x) (some (.ref a)) ∧ H a = some (.tup [.int (n x), .int (d x)]) := by
  have nd := p.nd
  rw [← p.ks] at hx nd
  obtain ⟨y, hy, rfl⟩ := List.mem_map.mp hx
  refine ⟨y.2, ?_, p.ls y hy⟩
  have := DGet.k (k := Sum.inr y.1) p.at_
  rw [valV_dR nd (a := y.2) hy] at this
  exact this
theorem SpotD.up {H G : Hp} {sp : Addr} {n d : Str → Int} {R : List (Str × Addr)} {ns : List Str} (p : SpotD H sp n d R ns) {hg : Addr} {kvs : List (Key × V)} (o : Oth hg H G) (hd : H hg = some (.dK kvs)) (ne : sp ≠ hg) : SpotD G sp n d R ns :=
  ⟨o _ _ ne p.at_, p.ks, fun x hx => o _ _ (fun z => by have := p.ls x hx; rw [z, hd] at this; cases this) (p.ls x hx), p.nd, p.b⟩
theorem SpotD.same {H G : Hp} {sp : Addr} {n d : Str → Int} {R : List (Str × Addr)} {ns : List Str} (p : SpotD H sp n d R ns) (s : Same H G) : SpotD G sp n d R ns := ⟨s _ _ p.at_, p.ks, fun x hx => s _ _ (p.ls x hx), p.nd, p.b⟩
/-- while the dict at hg is locked -/
theorem SpotD.lk {H : Hp} {sp : Addr} {n d : Str → Int} {R : List (Str × Addr)} {ns : List Str} (p : SpotD H sp n d R ns) {hg : Addr} {o : HO} {kvs : List (Key × V)} (hd : H hg = some (.dK kvs)) (ne : sp ≠ hg) : SpotD (upd H hg o) sp n d R ns :=
  ⟨(upd_ne ne).trans p.at_, p.ks, fun x hx => (upd_ne fun z => by have := p.ls x hx; rw [z, hd] at this; cases this).trans (p.ls x hx), p.nd, p.b⟩
/-- rooms of what is reckoned -/
structure RecIn (K : PySem.W.Frag) (H : Hp) (a sp : Addr) (p : Poly) (n d : Str → Int) (R : List (Str × Addr)) (ns L : List Str) (e bb : Nat) : Prop where
  kp : PolyF K H p a
  ks : SpotD H sp n d R ns
  tp : Tame L e bb p
  nm : NamesOk L
  sub : ∀ f ∈ facs p, f.1 ∈ ns
  le : L.length * e ≤ 80
  e80 : e ≤ 80
  b9 : bb ≤ 2000
def spReck (K : PySem.W.Frag) : Sp := fun vs H Q _ => ∃ (a sp : Addr) (p : Poly) (n d : Str → Int) (R : List (Str × Addr)) (ns L : List Str) (e bb : Nat), vs = [.ref a, .ref sp] ∧ RecIn K H a sp p n d R ns L e bb ∧
  ∀ (t : Addr) (G : Hp), Same H G → G t = some (.tup [.int (rP (frac n d) p).num, .int (rP (frac n d) p).den]) → Q (.ref t) G
section
variable {P : Program} {w : World} {K : PySem.W.Frag} {mg : Str → Option Value} {base : Heap} {fO fW : Addr} {dO dW : FuncData}
theorem scReck : FnScope ["poly", "spot", "highest", "monomial", "number", "sign", "exponent", "bottom", "total", "exponents"] ["poly", "spot"] (defScope sReck) := ⟨rfl, rfl, rfl, by decide +kernel, rfl, by decide +kernel, by decide +kernel⟩
theorem ok_reck {f : Addr} {fd : FuncData} (F : Fun K "_law_reckoned" "_law_reckoned" sReck f fd) (O : CallT P w K mg base CX0 1 "_law_own_raised" ["number", "exponent"] spOwn fO dO) (W : CallT P w K mg base CX0 2 "_law_lowest" ["top", "bottom"] spLow fW dW)
    (max : mg "max" = none) (dict : mg "dict" = none) : FnOk P w K mg base CX0 3 f fd ["poly", "spot"] (spReck K) := by
  refine F.ok scReck (fun vs H Q E h => ?_) (fun cdv A outer s H vs Q E hr h => ?_)
  · obtain ⟨a, sp, p, n, d, R, ns, L, e, bb, rfl, _⟩ := h
    rfl
  · obtain ⟨a, sp, p, n, d, R, ns, L, e, bb, rfl, hi, go⟩ := h
    refine ⟨_, (pss_cons (ps_set (i := 2) scReck.nd rfl (Or.inl rfl) pe_dnewK)
      (pss_cons (ps_for PassesOwn.never rfl (pi_tup (pv 0)) (pg_tup rfl (pgs_cons (pg_name (i := 3) scReck.nd rfl (Or.inl rfl)) (pgs_cons (pg_name (i := 4) scReck.nd rfl (Or.inl rfl)) pgs_nil))) (pss_one (ps_for PassesOwn.never rfl (pi_tup (pv 3)) (pg_tup rfl (pgs_cons (pg_name (i := 5) scReck.nd rfl (Or.inl rfl)) (pgs_cons (pg_name (i := 6) scReck.nd rfl (Or.inl rfl)) pgs_nil))) (pss_one (ps_dput (hu_of hr) (pv 2) (pv 5) (pe_callB (call_max2 rfl) (by rfl) max (by decide +kernel) (pa_cons (pv 6) (pa_cons (pe_dget2 (hu_of hr) (pv 2) (pv 5) pe_int ⟨rfl, rfl, rfl, rfl⟩) pa_nil))) rfl)))))
      (pss_cons (ps_set (i := 7) scReck.nd rfl (Or.inl rfl) pe_int)
      (pss_cons (ps_lock (ps_for PassesOwn.never rfl (pi_keys (pv 2)) (pg_name (i := 5) scReck.nd rfl (Or.inl rfl)) (pss_one (ps_set (i := 7) scReck.nd rfl (Or.inl rfl) (pe_op op_mulW (pv 7) (pe_call O.ok (hr.mono (by decide)) rfl O.g O.k O.b .nil pass0 (pa_cons (pe_ix ix_tup (pe_dget (hu_of hr) (pv 1) (pv 5) (fun _ _ => rfl)) pe_int (fun _ _ => rfl)) (pa_cons (pe_dget (hu_of hr) (pv 2) (pv 5) (fun _ _ => rfl)) pa_nil))))))))
      (pss_cons (ps_set (i := 8) scReck.nd rfl (Or.inl rfl) pe_int)
      (pss_cons (ps_for PassesOwn.never rfl (pi_tup (pv 0)) (pg_tup rfl (pgs_cons (pg_name (i := 3) scReck.nd rfl (Or.inl rfl)) (pgs_cons (pg_name (i := 4) scReck.nd rfl (Or.inl rfl)) pgs_nil))) (pss_cons (ps_set (i := 9) scReck.nd rfl (Or.inl rfl) (pe_callTy (call_dictP (b := false) rfl) (by rfl) dict (by decide +kernel) (pa_cons (pv 3) pa_nil)))
      (pss_cons (ps_lock (ps_for PassesOwn.never rfl (pi_keys (pv 2)) (pg_name (i := 5) scReck.nd rfl (Or.inl rfl)) (pss_cons (ps_set (i := 6) scReck.nd rfl (Or.inl rfl) (pe_dget2 (hu_of hr) (pv 9) (pv 5) pe_int ⟨rfl, rfl, rfl, rfl⟩))
      (pss_cons (ps_set (i := 4) scReck.nd rfl (Or.inl rfl) (pe_op op_mulW (pv 4) (pe_call O.ok (hr.mono (by decide)) rfl O.g O.k O.b .nil pass0 (pa_cons (pe_ix ix_tup (pe_dget (hu_of hr) (pv 1) (pv 5) (fun _ _ => rfl)) pe_int (fun _ _ => rfl)) (pa_cons (pv 6) pa_nil)))))
      (pss_one (ps_set (i := 4) scReck.nd rfl (Or.inl rfl) (pe_op op_mulW (pv 4) (pe_call O.ok (hr.mono (by decide)) rfl O.g O.k O.b .nil pass0 (pa_cons (pe_ix ix_tup (pe_dget (hu_of hr) (pv 1) (pv 5) (fun _ _ => rfl)) pe_int (fun _ _ => rfl)) (pa_cons (pe_op op_sub (pe_dget (hu_of hr) (pv 2) (pv 5) (fun _ _ => rfl)) (pv 6)) pa_nil))))))))))
      (pss_one (ps_set (i := 8) scReck.nd rfl (Or.inl rfl) (pe_op op_add (pv 8) (pv 4)))))))
      (pss_one (ps_ret (pe_call W.ok (hr.mono (by decide)) rfl W.g W.k W.b .nil pass0 (pa_cons (pv 8) (pa_cons (pv 7) pa_nil))))))))))), ?_⟩
    obtain ⟨⟨xs, hxs, kxs, fxs⟩, ks, tp, nm, sub, le, e80, b9⟩ := hi
    have ok := tp.ok
    refine fun hg nhg => ?_
    have s1 : Same H (upd H hg (.dK [])) := same_new nhg
    have d1 : DictS (upd H hg (.dK [])) hg [] := upd_same
    have noG : ∀ b o, H b = some o → b ≠ hg := fun b o q => ne_of_none q nhg
    generalize upd H hg (.dK []) = F0 at s1 d1 ⊢
    have x1 := rds s1 hxs
    have lx : xs.length = p.length := by rw [K1P.keyVs_len kxs, List.length_map]
    have kF : ∀ {G : Hp}, Oth hg F0 G → Tups K H G := fun o => (K1P.same_tups s1).trans (Oth.tups o d1)
    refine ⟨_, rfl, a, rfl, ⟨xs, .inl x1⟩, ?_⟩
    refine for_it (walk_tup (K := K) (a := a) (xs := xs)) (fun i σ G => ∃ (u3 u4 u5 u6 : Option V) (D : KS), σ = [some (.ref a), some (.ref sp), some (.ref hg), u3, u4, u5, u6, none, none, none] ∧ Oth hg F0 G ∧ DictS G hg D ∧ DegF (facs (p.take i)) D)
      ⟨_, _, _, _, [], rfl, Oth.refl, d1, DegF.nil⟩ (fun i σ G _ ⟨_, _, _, _, _, _, o, _⟩ => .inl (Tups.rd (kF o) hxs)) (fun i x σ G G' hi ⟨u3, u4, u5, u6, D, hσ, o, hD, dg⟩ ⟨e', hv⟩ => ?_) (fun σ G ⟨u3, u4, u5, u6, D, hσ, o, hD, dg⟩ => ?_)
    · subst hσ e'
      obtain ⟨t, ht, kv⟩ := term_at kxs hv
      obtain ⟨q, u, rfl, hq, km⟩ := kv_term.mp kv
      obtain ⟨m, ms, rfl, hm, kms⟩ := kv_mon.mp km
      have lm : ms.length = t.1.length := by rw [K1P.keyVs_len kms, List.length_map]
      have k0 := kF o
      refine ⟨q, _, rfl, SqT.of (k0.t _ _ hq), rfl, _, _, rfl, _, _, rfl, rfl, ?_⟩
      refine ⟨_, rfl, m, rfl, ⟨ms, .inl (Tups.rd k0 hm)⟩, ?_⟩
      refine for_it (walk_tup (K := K) (a := m) (xs := ms)) (fun j σ G => ∃ (u5 u6 : Option V) (D : KS), σ = [some (.ref a), some (.ref sp), some (.ref hg), some (.ref m), some (.int t.2), u5, u6, none, none, none] ∧ Oth hg F0 G ∧ DictS G hg D ∧ DegF (facs (p.take i) ++ t.1.take j) D)
        ⟨_, _, D, rfl, o, hD, by rw [List.take_zero, List.append_nil]; exact dg⟩ (fun j σ G _ ⟨_, _, _, _, o, _⟩ => .inl (Tups.rd (kF o) hm)) (fun j y σ G1 G2 hj ⟨u5, u6, D, hσ, o, hD, dg⟩ ⟨e, hy⟩ => ?_) (fun σ G1 ⟨u5, u6, D, hσ, o, hD, dg⟩ => ?_)
      · subst hσ e
        obtain ⟨k, hk, kv⟩ := keyVs_get kms hy
        rw [List.getElem?_map] at hk
        obtain ⟨fc, hf, rfl⟩ := Option.map_eq_some_iff.mp hk
        obtain ⟨c, rfl, hc⟩ := kv_fac.mp kv
        have fm : fc ∈ facs p := mem_facs.mpr ⟨t, List.mem_of_getElem? ht, List.mem_of_getElem? hf⟩
        have lp := facs_part ht j
        have ld := dg.len
        have lf := tp.facs nm
        have gd := DGet.k (k := eS fc.1) hD
        refine ⟨c, _, rfl, SqT.of ((kF o).t _ _ hc), rfl, _, _, rfl, _, _, rfl, rfl, ?_⟩
        refine ⟨_, rfl, _, rfl, hg, rfl, .inl ⟨_, .inl hD⟩, _, rfl, _, gd, ?_⟩
        rw [getD_mpT eS_inj]
        refine ⟨_, _, rfl, _, rfl, _, rfl, hg, _, rfl, DPut.k (k := eS fc.1) hD (by rw [len_mpT]; omega), ?_⟩
        rw [putK_mpT eS_inj]
        refine ⟨_, _, _, rfl, o.trans Oth.put, upd_same, ?_⟩
        rw [take_snoc hf, ← List.append_assoc]
        exact dg.step (ok.ge fc fm)
      · subst hσ
        refine ⟨_, _, _, _, D, rfl, o, hD, ?_⟩
        rw [lm, List.take_length] at dg
        rw [facs_take ht]
        exact dg
    · rw [lx, List.take_length] at dg
      subst hσ
      have k1 := kF o
      have s2 : Same H G := fun b ob hb => o _ _ (noG _ _ hb) (s1 _ _ hb)
      have spg : sp ≠ hg := noG _ _ ks.at_
      have ksG := ks.same s2
      have ndD : (D.map (·.1)).Nodup := dg.nd
      have inD : ∀ y ∈ D.map (·.1), ∃ f ∈ facs p, f.1 = y ∧ f.2 = getT D y := dg.at_
      have inS : ∀ y ∈ D.map (·.1), y ∈ ns := fun y hy => by
        obtain ⟨f, hf, q, _⟩ := inD y hy
        rw [← q]
        exact sub f hf
      have hE : ∀ y ∈ D.map (·.1), y ∈ L ∧ (getT D y).toNat ≤ e ∧ 0 ≤ getT D y := fun y hy => by
        obtain ⟨f, hf, q1, q2⟩ := inD y hy
        obtain ⟨t, ht, q⟩ := mem_facs.mp hf
        have := tp.at_ t ht f q
        have := ok.ge f hf
        exact ⟨by rw [← q1]; exact (tp.at_ t ht f q).1, by omega, by omega⟩
      have sum80 : ∀ i, sumN ((D.map (·.1)).take i) (fun x => (getT D x).toNat) ≤ 80 := fun i => by
        have h1 := sumN_take (fun x => (getT D x).toNat) (D.map (·.1)) i
        have h2 := sumN_const (f := fun x => (getT D x).toNat) (e := e) (ns := D.map (·.1)) fun y hy => (hE y hy).2.1
        have h3 := Nat.mul_le_mul_right e (nodup_sub ndD fun y hy => (hE y hy).1)
        omega
      have bn : ∀ y ∈ D.map (·.1), (n y).natAbs < 2 ^ 100 := fun y hy => (ks.b y (inS y hy)).1
      have bd : ∀ y ∈ D.map (·.1), (d y).natAbs < 2 ^ 100 := fun y hy => (ks.b y (inS y hy)).2.2
      have dp : ∀ y ∈ D.map (·.1), 0 < d y := fun y hy => (ks.b y (inS y hy)).2.1
      have vD : ∀ y ∈ D.map (·.1), valV (mpT eS D) (eS y) = some (.int (((getT D y).toNat : Nat) : Int)) := fun y hy => by
        rw [valV_mpT eS_inj, Int.toNat_of_nonneg (hE y hy).2.2]
        unfold getT
        cases hv : valT D y with
        | none => exact absurd hy (valT_none.mp hv)
        | some v => rfl
      refine ⟨hg, _, hD, True.intro, fun od => ⟨_, rfl, hg, od, rfl, .inl ⟨_, upd_same, ?_⟩⟩⟩
      have lD : (mpT eS D).length = (D.map (·.1)).length := by rw [len_mpT, List.length_map]
      have keyAt : ∀ {i : Nat} {k : Key} {v : V}, (mpT eS D)[i]? = some (k, v) → ∃ y, (D.map (·.1))[i]? = some y ∧ kV k = .str y := fun {i k v} h => by
        obtain ⟨x, h1, h2, h3⟩ := at_mpT h
        exact ⟨x.1, by rw [List.getElem?_map, h1]; rfl, by rw [h2]; rfl⟩
      refine for_it (walk_keys (d := hg) (o := od) (kvs := mpT eS D)) (fun i σ G' => ∃ (u3 u4 u5 u6 : Option V), σ = [some (.ref a), some (.ref sp), some (.ref hg), u3, u4, u5, u6, some (.int (evX d ((D.map (·.1)).take i) fun x => (getT D x).toNat)), none, none] ∧ G' = upd G hg (.frz od (.dK (mpT eS D))))
        ⟨_, _, _, _, rfl, rfl⟩ (fun i σ G' _ ⟨_, _, _, _, _, e⟩ => by rw [e]; exact upd_same) (fun i x σ G' G2 hi ⟨u3, u4, u5, u6, hσ, e1⟩ ⟨e2, k, v, hkv, hx⟩ => ?_) (fun σ G' ⟨u3, u4, u5, u6, hσ, e1⟩ => ?_)
      · rw [e1] at e2
        clear e1
        subst hσ e2 hx
        obtain ⟨y, hy, ky⟩ := keyAt hkv
        rw [ky]
        have my := List.mem_of_getElem? hy
        have ksL : SpotD (upd G hg (.frz od (.dK (mpT eS D)))) sp n d R ns := SpotD.lk (kvs := mpT eS D) ksG hD spg
        obtain ⟨b, gb, hb⟩ := SpotD.val ksL (inS y my)
        have gh : DGet (upd G hg (.frz od (.dK (mpT eS D)))) hg (.str y) (some (.int (((getT D y).toNat : Nat) : Int))) := by
          rw [← vD y my]
          exact .inl ⟨_, eS y, .inr ⟨od, upd_same⟩, rfl, rfl⟩
        have e80y : (getT D y).toNat ≤ 80 := by
          have := (hE y my).2.1
          omega
        refine ⟨_, rfl, _, rfl, _, rfl, sp, _, rfl, gb, b, _, _, _, rfl, rfl, SqT.of hb, atI_nat (j := 1) rfl, _, rfl, _, rfl, hg, _, rfl, gh, d y, (getT D y).toNat, rfl, bd y my, e80y, _, _, rfl, rfl, wide_mul (a := 8001) (b := 8001) ?_ (pow_bits (bd y my) e80y) (by decide) (by decide) (by decide), ?_⟩
        · refine Nat.lt_of_le_of_lt (evX_abs fun x hx => bd x (List.mem_of_mem_take hx)) (Nat.pow_lt_pow_right (by decide) ?_)
          have := sum80 i
          omega
        · refine ⟨u3, u4, some (.str y), u6, ?_, rfl⟩
          rw [take_snoc hy, evX_snoc]
          rfl
      · rw [lD, List.take_length] at hσ
        subst hσ e1
        refine ⟨upd_same, ?_⟩
        have back : upd (upd G hg (.frz od (.dK (mpT eS D)))) hg (.dK (mpT eS D)) = G := by
          exact upd_back hD
        rw [back]
        clear back
        have s80 := sum80 (D.map (·.1)).length
        rw [List.take_length] at s80
        have xG := rds s2 hxs
        refine ⟨_, rfl, a, rfl, ⟨xs, .inl xG⟩, ?_⟩
        refine for_it (walk_tup (K := K) (a := a) (xs := xs)) (fun i σ F => ∃ (u3 u4 u5 u6 u9 : Option V), σ = [some (.ref a), some (.ref sp), some (.ref hg), u3, u4, u5, u6, some (.int (evX d (D.map (·.1)) fun x => (getT D x).toNat)), some (.int (overP n d (D.map (·.1)) (fun x => (getT D x).toNat) (p.take i))), u9] ∧ Same G F)
          ⟨_, _, _, _, _, rfl, fun _ _ h => h⟩ (fun i σ F _ ⟨_, _, _, _, _, _, s⟩ => .inl (rds s xG)) (fun i x σ F F' hi ⟨u3, u4, u5, u6, u9, hσ, sF⟩ ⟨e', hv⟩ => ?_) (fun σ F ⟨u3, u4, u5, u6, u9, hσ, sF⟩ => ?_)
        · subst hσ e'
          obtain ⟨t, ht, kv⟩ := term_at kxs hv
          obtain ⟨q, u, rfl, hq, km⟩ := kv_term.mp kv
          obtain ⟨m, ms, rfl, hm, kms⟩ := kv_mon.mp km
          obtain ⟨q', m', c', eq', hq', o', ys, hm', od'⟩ := fxs _ (List.mem_of_getElem? hv)
          cases eq'
          rw [hq] at hq'
          cases hq'
          have hms : ys = ms := by
            rcases hm with hm | ⟨o2, hm⟩
            · rw [hm'] at hm; cases hm
            · rw [hm'] at hm; cases hm; rfl
          subst hms
          have mt : t ∈ p := List.mem_of_getElem? ht
          have mo := (ok.ok t mt).1
          have sHF : Same H F' := s2.trans sF
          have kmF := KeyVs.up (K1P.same_tups sHF) _ _ kms
          refine ⟨q, _, rfl, SqT.of (sHF _ _ hq), rfl, _, _, rfl, _, _, rfl, rfl, ?_⟩
          refine ⟨_, rfl, m, o', ys, t.1, rfl, sHF _ _ hm', od', allV_keys (fun f v kf => ?_) kmF, mo.nd, fun ex nex => ?_⟩
          · obtain ⟨r, rfl, h7⟩ := kv_fac.mp kf
            exact ⟨r, rfl, SqT.of h7⟩
          have exk : (F' ex) = none := nex
          have sE : Same G (upd F' ex (.dK (facD t.1))) := sF.trans (same_new nex)
          have hex : upd F' ex (.dK (facD t.1)) ex = some (.dK (mpT eS t.1)) := upd_same
          have exhg : ex ≠ hg := fun z => by
            have := sF _ _ hD
            rw [← z, nex] at this
            cases this
          generalize upd F' ex (.dK (facD t.1)) = F1 at sE hex ⊢
          have hD1 : F1 hg = some (.dK (mpT eS D)) := sE _ _ hD
          have ksF := ksG.same sE
          have mge : ∀ f ∈ t.1, f.2 ≤ getT D f.1 := fun f hf => dg.ge f (mem_facs.mpr ⟨t, mt, hf⟩)
          have mks : ∀ f ∈ t.1, f.1 ∈ D.map (·.1) := fun f hf => (dg.keys f.1).mpr ⟨f, mem_facs.mpr ⟨t, mt, hf⟩, rfl⟩
          have ele := exM_deg mo mge
          have tb := tp.bits t mt
          refine ⟨hg, _, hD1, True.intro, fun od2 => ⟨_, rfl, hg, od2, rfl, .inl ⟨_, upd_same, ?_⟩⟩⟩
          have nb : ∀ {sv : Str → Int} {g : Expo}, (∀ y ∈ D.map (·.1), (sv y).natAbs < 2 ^ 100) → (∀ x, g x ≤ (getT D x).toNat) → ∀ j, (evX sv ((D.map (·.1)).take j) g).natAbs < 2 ^ 8001 := fun {sv g} b le j => by
            refine Nat.lt_of_le_of_lt (evX_abs fun x hx => b x (List.mem_of_mem_take hx)) (Nat.pow_lt_pow_right (by decide) ?_)
            have h1 := sumN_le (f := g) (h := fun x => (getT D x).toNat) (ns := (D.map (·.1)).take j) fun x _ => le x
            have h2 := sum80 j
            omega
          have gle : ∀ x, gapE (fun x => (getT D x).toNat) (exM t.1) x ≤ (getT D x).toNat := fun x => Nat.sub_le _ _
          have z0 : t.2 * evX n ((D.map (·.1)).take 0) (exM t.1) * evX d ((D.map (·.1)).take 0) (gapE (fun x => (getT D x).toNat) (exM t.1)) = t.2 := by
            rw [List.take_zero]
            show t.2 * 1 * 1 = t.2
            omega
          refine for_it (walk_keys (d := hg) (o := od2) (kvs := mpT eS D)) (fun j σ G' => ∃ (u5 u6 : Option V), σ = [some (.ref a), some (.ref sp), some (.ref hg), some (.ref m), some (.int (t.2 * evX n ((D.map (·.1)).take j) (exM t.1) * evX d ((D.map (·.1)).take j) (gapE (fun x => (getT D x).toNat) (exM t.1)))), u5, u6, some (.int (evX d (D.map (·.1)) fun x => (getT D x).toNat)), some (.int (overP n d (D.map (·.1)) (fun x => (getT D x).toNat) (p.take i))), some (.ref ex)] ∧ G' = upd F1 hg (.frz od2 (.dK (mpT eS D))))
            ⟨u5, u6, by rw [z0]; rfl, rfl⟩ (fun i σ G' _ ⟨_, _, _, e⟩ => by rw [e]; exact upd_same) (fun j x σ G' G2 hj ⟨u5, u6, hσ, e1⟩ ⟨e2, k, v, hkv, hx⟩ => ?_) (fun σ G' ⟨u5, u6, hσ, e1⟩ => ?_)
          · rw [e1] at e2
            clear e1
            subst hσ e2 hx
            obtain ⟨y, hy, ky⟩ := keyAt hkv
            rw [ky]
            have my := List.mem_of_getElem? hy
            have ksL : SpotD (upd F1 hg (.frz od2 (.dK (mpT eS D)))) sp n d R ns := SpotD.lk (kvs := mpT eS D) ksF hD1 spg
            obtain ⟨b, gb, hb⟩ := SpotD.val ksL (inS y my)
            have gh : DGet (upd F1 hg (.frz od2 (.dK (mpT eS D)))) hg (.str y) (some (.int (((getT D y).toNat : Nat) : Int))) := by
              rw [← vD y my]
              exact .inl ⟨_, eS y, .inr ⟨od2, upd_same⟩, rfl, rfl⟩
            have hexL : upd F1 hg (.frz od2 (.dK (mpT eS D))) ex = some (.dK (mpT eS t.1)) := (upd_ne exhg).trans hex
            have gx := DGet.k (k := eS y) hexL
            have e80y : (getT D y).toNat ≤ 80 := by
              have := (hE y my).2.1
              omega
            have ely := ele y
            refine ⟨_, rfl, ex, rfl, .inl ⟨_, .inl hexL⟩, _, rfl, _, gx, ?_⟩
            rw [getD_mpT eS_inj, getT_exM mo]
            have w1 := nb bn (fun x => ele x) j
            have w2 := nb bd gle j
            refine ⟨_, rfl, _, rfl, _, rfl, sp, _, rfl, gb, b, _, _, _, rfl, rfl, SqT.of hb, atI_nat (j := 0) rfl, _, rfl, n y, exM t.1 y, rfl, bn y my, by omega, _, _, rfl, rfl, wide_mul (wide_lt (wide_lt tb w1) w2) (pow_bits (bn y my) (by omega)) (by omega) (by omega) (by omega), ?_⟩
            refine ⟨_, rfl, _, rfl, _, rfl, sp, _, rfl, gb, b, _, _, _, rfl, rfl, SqT.of hb, atI_nat (j := 1) rfl, _, rfl, _, rfl, hg, _, rfl, gh, _, rfl, _, _, rfl, rfl, d y, (getT D y).toNat - exM t.1 y, by rw [Int.natCast_sub ely]; rfl, bd y my, by omega, _, _, rfl, rfl, wide_mul (wide_lt (wide_lt (wide_lt tb w1) w2) (pow_bits (bn y my) (by omega))) (pow_bits (bd y my) (by omega)) (by omega) (by omega) (by omega), ?_⟩
            refine ⟨some (.str y), some (.int (exM t.1 y)), ?_, rfl⟩
            rw [take_snoc hy, evX_snoc, evX_snoc]
            have al : ∀ T A B C D' : Int, T * A * B * C * D' = T * (A * C) * (B * D') := by
              intros
              grind
            rw [← al]
            rfl
          · rw [lD, List.take_length] at hσ
            subst hσ e1
            refine ⟨upd_same, ?_⟩
            rw [upd_back hD1]
            refine ⟨_, rfl, _, rfl, _, _, rfl, rfl, some (.ref m), some (.int (t.2 * evX n (D.map (·.1)) (exM t.1) * evX d (D.map (·.1)) (gapE (fun x => (getT D x).toNat) (exM t.1)))), u5, u6, some (.ref ex), ?_, sE⟩
            rw [take_snoc ht, over_snoc, evM_ex n ndD mks]
            rfl
        · rw [lx, List.take_length] at hσ
          subst hσ
          have wp := evX_pos (fun x => (getT D x).toNat) dp
          have wb : (evX d (D.map (·.1)) fun x => (getT D x).toNat).natAbs < 2 ^ 8001 := Nat.lt_of_le_of_lt (evX_abs bd) (Nat.pow_lt_pow_right (by decide) (by omega))
          have over := over_rat (n := n) (h := fun x => (getT D x).toNat) ndD dp (p := p) (fun t mt f hf => (dg.keys f.1).mpr ⟨f, mem_facs.mpr ⟨t, mt, hf⟩, rfl⟩) fun t mt x _ => exM_deg (ok.ok t mt).1 (fun f hf => dg.ge f (mem_facs.mpr ⟨t, mt, hf⟩)) x
          generalize overP n d (D.map (·.1)) (fun x => (getT D x).toNat) p = T at over ⊢
          obtain ⟨V0, hW⟩ := Int.eq_ofNat_of_zero_le (Int.le_of_lt wp)
          rw [hW] at wp wb over ⊢
          have w0 : V0 ≠ 0 := by omega
          rw [Int.natAbs_natCast] at wb
          have eq := mk_of w0 (by rw [over]; rfl)
          refine ⟨_, rfl, _, rfl, T, V0, rfl, w0, Nat.lt_of_lt_of_le wb (Nat.pow_le_pow_right (by decide) (by decide)), fun v G4 s4 h4 => ?_⟩
          rw [eq] at h4
          exact go v G4 (s2.trans (sF.trans s4)) h4
end
end K5

set_option Elab.async false
set_option linter.all false
set_option maxRecDepth 100000
set_option maxHeartbeats 8000000
set_option autoImplicit false
set_option pp.maxSteps 600
set_option exponentiation.threshold 1000
/-! The law's pairs of names and fractions. -/
namespace K5
open PySem L2 K1D K2P K3
abbrev sPairs : Stmt := K2P.top 46
theorem perm_erase {α : Type} : ∀ {l : List α} {k : Nat} {y : α}, l[k]? = some y → l.Perm (y :: l.eraseIdx k)
  | [], _, _, h => by simp at h
  | x :: l, 0, y, h => by
    cases h
    exact .refl _
  | x :: l, k + 1, y, h => by
    have := perm_erase (l := l) (k := k) h
    exact (List.Perm.cons x this).trans (List.Perm.swap y x _)
theorem erase_map {α β : Type} (f : α → β) : ∀ (l : List α) (k : Nat), (l.map f).eraseIdx k = (l.eraseIdx k).map f
  | [], _ => rfl
  | _ :: _, 0 => rfl
  | x :: l, k + 1 => by
    show f x :: (l.map f).eraseIdx k = f x :: (l.eraseIdx k).map f
    rw [erase_map f l k]
theorem SpotD.but {H G : Hp} {sp p l : Addr} {n d : Str → Int} {R : List (Str × Addr)} {ns : List Str} (q : SpotD H sp n d R ns) (b : But p H G) (t : TapeL H p l) (ne : sp ≠ p) : SpotD G sp n d R ns := by
  obtain ⟨kvs, hp⟩ := t.at
  exact ⟨b _ _ ne q.at_, q.ks, fun x hx => b _ _ (fun z => by have := q.ls x hx; rw [z, hp] at this; cases this) (q.ls x hx), q.nd, q.b⟩
/-- all but three stays -/
def But3 (p a b : Addr) (H G : Hp) : Prop := ∀ x o, x ≠ p → x ≠ a → x ≠ b → H x = some o → G x = some o
/-- a pair, away from the two lists -/
def PairX (lf pr : Addr) (H : Hp) (n d : Str → Int) (x : Str) (v : V) : Prop :=
  (∃ t b, v = .ref t ∧ H t = some (.tup [.str x, .ref b]) ∧ H b = some (.tup [.int (n x), .int (d x)])) ∨
  ∃ t u, v = .ref t ∧ H t = some (.lst [.str x, .ref u]) ∧ H u = some (.lst [.int (n x), .int (d x)]) ∧ t ≠ lf ∧ t ≠ pr ∧ u ≠ lf ∧ u ≠ pr
theorem PairX.up {lf pr p : Addr} {H G : Hp} {n d : Str → Int} {x : Str} {v : V} {kvs : List (Key × V)} {l1 l2 : List V} (h : PairX lf pr H n d x v) (b : But3 p lf pr H G) (hp : H p = some (.dK kvs)) (h1 : H lf = some (.lst l1)) (h2 : H pr = some (.lst l2)) : PairX lf pr G n d x v := by
  have nt : ∀ {a : Addr} {xs : List V}, H a = some (.tup xs) → G a = some (.tup xs) := fun {a xs} e => b _ _ (fun z => by rw [z, hp] at e; cases e) (fun z => by rw [z, h1] at e; cases e) (fun z => by rw [z, h2] at e; cases e) e
  rcases h with ⟨t, c, e, ht, hc⟩ | ⟨t, u, e, ht, hu, n1, n2, n3, n4⟩
  · exact .inl ⟨t, c, e, nt ht, nt hc⟩
  · exact .inr ⟨t, u, e, b _ _ (fun z => by rw [z, hp] at ht; cases ht) n1 n2 ht, b _ _ (fun z => by rw [z, hp] at hu; cases hu) n3 n4 hu, n1, n2, n3, n4⟩
theorem PairX.is {K : PySem.W.Frag} {lf pr : Addr} {H : Hp} {n d : Str → Int} {x : Str} {v : V} (h : PairX lf pr H n d x v) : PairR K H n d x v := by
  rcases h with ⟨t, c, e, ht, hc⟩ | ⟨t, u, e, ht, hu, _⟩
  · exact ⟨false, t, c, e, SqT.of ht, SqT.of hc⟩
  · exact ⟨true, t, u, e, SqL.of ht, SqL.of hu⟩
def spPairs (K : PySem.W.Frag) : Sp := fun vs H Q _ => ∃ (p l la sp : Addr) (ys ns : List Str) (n d : Str → Int) (R : List (Str × Addr)), vs = [.ref p, .ref la, .ref sp] ∧ TapeL H p l ∧ H la = some (.lst (ys.map V.str)) ∧ ys.length ≤ 100 ∧ SpotD H sp n d R ns ∧ sp ≠ p ∧ (∀ y ∈ ys, y ∈ ns) ∧
  ∀ (c : Bool) (a : Addr) (xs : List Str) (G : Hp), xs.Perm ys → TapeL G p l → But p H G → PairsC c K G n d xs a → Q (.ref a) G
section
variable {P : Program} {w : World} {K : PySem.W.Frag} {mg : Str → Option Value} {base : Heap} {fD : Addr} {dD : FuncData}
theorem scPairs : FnScope ["tape", "names", "spot", "left", "pairs", "k", "sign"] ["tape", "names", "spot"] (defScope sPairs) := ⟨rfl, rfl, rfl, by decide +kernel, rfl, by decide +kernel, by decide +kernel⟩
theorem ok_pairs {f : Addr} {fd : FuncData} (F : Fun K "_law_pairs" "_law_pairs" sPairs f fd) (Z : DrawTxt P w K mg base fD dD) : FnOk P w K mg base CX0 3 f fd ["tape", "names", "spot"] (spPairs K) := by
  refine F.ok scPairs (fun vs H Q E h => ?_) (fun cdv A outer s H vs Q E hr h => ?_)
  · obtain ⟨p, l, la, sp, ys, ns, n, d, R, rfl, _⟩ := h
    rfl
  · obtain ⟨p, l, la, sp, ys, ns, n, d, R, rfl, hf, hla, y100, ks, spp, sub, go⟩ := h
    refine ⟨_, (pss_cons (ps_set (i := 3) scPairs.nd rfl (Or.inl rfl) (pe_callTy call_list_of (by rfl) Z.list (by decide +kernel) (pa_cons (pv 1) pa_nil)))
      (pss_cons (ps_set (i := 4) scPairs.nd rfl (Or.inl rfl) (pe_lst pa_nil))
      (pss_cons (ps_for PassesOwn.never rfl (pi_range1 (by rfl) Z.range (pa_cons (pe_callB call_len_seq (by rfl) Z.len PySem.boot_len (pa_cons (pv 1) pa_nil)) pa_nil)) (pg_name (i := 5) scPairs.nd rfl (Or.inl rfl)) (pss_cons (ps_set (i := 6) scPairs.nd rfl (Or.inl rfl) (pe_bm PySem.F.plainAttrs_list PySem.F.slot_list_pop PySem.F.type_list_pop mt_popAt (pv 3) (pa_cons (pe_call Z.d.ok (hr.mono (by decide)) rfl Z.d.g Z.d.k Z.d.b .nil pass0 (pa_cons (pv 0) (pa_cons (pe_callB call_len_seq (by rfl) Z.len PySem.boot_len (pa_cons (pv 3) pa_nil)) pa_nil))) pa_nil)))
      (pss_one (ps_expr (pe_bm PySem.F.plainAttrs_list PySem.F.slot_list_append PySem.F.type_list_append mt_append (pv 4) (pa_cons (pe_ix ix_list (pe_lst (pa_cons (pe_tup (pa_cons (pv 6) (pa_cons (pe_dget (hu_of hr) (pv 2) (pv 6) (fun _ _ => rfl)) pa_nil))) (pa_cons (pe_lst (pa_cons (pv 6) (pa_cons (pe_callTy call_list_of (by rfl) Z.list (by decide +kernel) (pa_cons (pe_dget (hu_of hr) (pv 2) (pv 6) (fun _ _ => rfl)) pa_nil)) pa_nil))) pa_nil))) (pe_call Z.d.ok (hr.mono (by decide)) rfl Z.d.g Z.d.k Z.d.b .nil pass0 (pa_cons (pv 0) (pa_cons pe_int pa_nil))) (fun _ _ => rfl)) pa_nil))))))
      (pss_cons (ps_if (pt_cmpR op_eq (pe_call Z.d.ok (hr.mono (by decide)) rfl Z.d.g Z.d.k Z.d.b .nil pass0 (pa_cons (pv 0) (pa_cons pe_int pa_nil))) pe_int (nomark _)) (pss_one (ps_ret (pe_tupleOf (by rfl) Z.tuple (pv 4)))) pss_nil)
      (pss_one (ps_ret (pv 4))))))), ?_⟩
    have c2 : ((2 : Int)).natAbs < 2 ^ 8000 := b8000 (n := 10) (by decide) (by decide)
    have lap := hf.lst hla
    refine ⟨_, rfl, la, _, rfl, .inl (SqL.of hla), fun lf nlf => ?_⟩
    have lfl := (hf.none nlf).2
    have f1 := hf.up (o := .lst (ys.map V.str)) nlf
    have s1 : Same H (upd H lf (.lst (ys.map V.str))) := same_new nlf
    have e1 : upd H lf (.lst (ys.map V.str)) lf = some (.lst (ys.map V.str)) := upd_same
    have n1 : ∀ x o, H x = some o → x ≠ lf := fun x o e => ne_of_none e nlf
    generalize upd H lf (.lst (ys.map V.str)) = H1 at f1 s1 e1 ⊢
    refine ⟨by show 0 ≤ sizeLine; decide, fun pr npr => ?_⟩
    have prl := (f1.none npr).2
    have f2 := f1.up (o := .lst []) npr
    have s2 := s1.trans (same_new (o := .lst []) npr)
    have e2 := same_new (o := .lst []) npr _ _ e1
    have e3 : upd H1 pr (.lst []) pr = some (.lst []) := upd_same
    have n2 : ∀ x o, H x = some o → x ≠ pr := fun x o e => ne_of_none (s1 _ _ e) npr
    have lp : lf ≠ pr := fun z => by rw [z, npr] at e1; cases e1
    generalize upd H1 pr (.lst []) = H2 at f2 s2 e2 e3 ⊢
    have hla2 := s2 _ _ hla
    refine ⟨_, rfl, la, _, rfl, .inl (SqL.of hla2), ?_⟩
    refine ⟨_, rfl, by rw [List.length_map]; omega, by rw [List.length_map]; omega, for_range (lo := 0) (n := (((ys.map V.str).length : Nat) : Int).toNat) (fun (i : Nat) (σ : L2.St) (G : Hp) => ∃ (u5 u6 : Option V) (xs zs : List Str) (vs : List V), σ = [some (.ref p), some (.ref la), some (.ref sp), some (.ref lf), some (.ref pr), u5, u6] ∧ TapeL G p l ∧ But p H G ∧ G lf = some (.lst (zs.map V.str)) ∧ G pr = some (.lst vs) ∧ AllV (PairX lf pr G n d) xs vs ∧ (xs ++ zs).Perm ys ∧ xs.length = i)
      ⟨_, _, [], ys, [], rfl, f2, But.same s2, e2, e3, ⟨rfl, fun i x v h => by simp at h⟩, .refl _, rfl⟩ (fun i σ G hi ⟨u5, u6, xs, zs, vs, hσ, fG, bG, hL, hP, av, pm, xl⟩ => ?_) (fun σ G ⟨u5, u6, xs, zs, vs, hσ, fG, bG, hL, hP, av, pm, xl⟩ => ?_)⟩
    · subst hσ
      rw [List.length_map, Int.toNat_natCast] at hi
      have pl := pm.length_eq
      rw [List.length_append] at pl
      refine ⟨_, rfl, .inl ⟨rfl, _, SqL.of hL⟩, _, rfl, _, rfl, lf, _, rfl, .inl (SqL.of hL), p, l, _, rfl, fG, ?_, fun z G1 z0 z1 f1' b1 => ?_⟩
      · rw [List.length_map]
        exact b8000 (n := 10) (by omega) (by decide)
      rw [List.length_map] at z1
      obtain ⟨k, rfl⟩ : ∃ k : Nat, z = k := ⟨z.toNat, by omega⟩
      have kl : k < zs.length := by omega
      obtain ⟨y, hy⟩ : ∃ y, zs[k]? = some y := ⟨zs[k], List.getElem?_eq_getElem kl⟩
      have lfp := fG.lst hL
      have prp := fG.lst hP
      have hL1 := b1 _ _ lfp hL
      have hP1 := b1 _ _ prp hP
      have hv : (zs.map V.str)[k]? = some (.str y) := by rw [List.getElem?_map, hy]; rfl
      refine ⟨lf, _, _, k, _, rfl, rfl, hL1, by omega, by omega, ?_, hv, ?_⟩
      · rw [List.length_map, PySem.seqIndex_of (by omega) (by omega)]
        rfl
      have em : (zs.map V.str).eraseIdx k = (zs.eraseIdx k).map V.str := erase_map _ _ _
      rw [em]
      have my : y ∈ ys := pm.mem_iff.mp (List.mem_append_right _ (List.mem_of_getElem? hy))
      have fA : TapeL (upd G1 lf (.lst ((zs.eraseIdx k).map V.str))) p l := f1'.set lfp lfl
      have bA0 : But3 p lf pr G (upd G1 lf (.lst ((zs.eraseIdx k).map V.str))) := fun x o h1 h2 h3 e => (upd_ne h2).trans (b1 _ _ h1 e)
      have bA : But p H (upd G1 lf (.lst ((zs.eraseIdx k).map V.str))) := fun x o h1 e => (upd_ne (n1 _ _ e)).trans ((bG.trans b1) _ _ h1 e)
      have LA : upd G1 lf (.lst ((zs.eraseIdx k).map V.str)) lf = some (.lst ((zs.eraseIdx k).map V.str)) := upd_same
      have PA : upd G1 lf (.lst ((zs.eraseIdx k).map V.str)) pr = some (.lst vs) := (upd_ne (Ne.symm lp)).trans hP1
      generalize upd G1 lf (.lst ((zs.eraseIdx k).map V.str)) = GA at fA bA0 bA LA PA ⊢
      obtain ⟨kvp, hGp⟩ := fG.at
      have avA := av.mono fun x v q => PairX.up q bA0 hGp hL hP
      have ksA := SpotD.but ks bA hf spp
      obtain ⟨b, gb, hb⟩ := SpotD.val ksA (sub y my)
      refine ⟨_, rfl, .inl ⟨rfl, _, SqL.of PA⟩, _, rfl, _, rfl, _, rfl, sp, _, rfl, gb, by show 2 ≤ sizeLine; decide, fun t nt => ?_⟩
      have sB := same_new (o := .tup [.str y, .ref b]) nt
      have hB : upd GA t (.tup [.str y, .ref b]) t = some (.tup [.str y, .ref b]) := upd_same
      have ksB := ksA.same sB
      generalize upd GA t (.tup [.str y, .ref b]) = GB at sB hB ksB ⊢
      obtain ⟨b', gb', hb'⟩ := SpotD.val ksB (sub y my)
      refine ⟨_, rfl, _, rfl, _, rfl, sp, _, rfl, gb', b', _, rfl, .inr (SqT.of hb'), fun u nu => ?_⟩
      have sC := sB.trans (same_new (o := .lst [.int (n y), .int (d y)]) nu)
      have hC : upd GB u (.lst [.int (n y), .int (d y)]) u = some (.lst [.int (n y), .int (d y)]) := upd_same
      have htC := same_new (o := .lst [.int (n y), .int (d y)]) nu _ _ hB
      generalize upd GB u (.lst [.int (n y), .int (d y)]) = GC at sC hC htC ⊢
      refine ⟨by show 2 ≤ sizeLine; decide, fun q nq => ?_⟩
      have sD := sC.trans (same_new (o := .lst [.str y, .ref u]) nq)
      have hD : upd GC q (.lst [.str y, .ref u]) q = some (.lst [.str y, .ref u]) := upd_same
      have huD := same_new (o := .lst [.str y, .ref u]) nq _ _ hC
      have htD := same_new (o := .lst [.str y, .ref u]) nq _ _ htC
      generalize upd GC q (.lst [.str y, .ref u]) = GD at sD hD huD htD ⊢
      refine ⟨by show 2 ≤ sizeLine; decide, fun r nr => ?_⟩
      have sE := sD.trans (same_new (o := .lst [.ref t, .ref q]) nr)
      have hE : upd GD r (.lst [.ref t, .ref q]) r = some (.lst [.ref t, .ref q]) := upd_same
      have hqE := same_new (o := .lst [.ref t, .ref q]) nr _ _ hD
      have huE := same_new (o := .lst [.ref t, .ref q]) nr _ _ huD
      have htE := same_new (o := .lst [.ref t, .ref q]) nr _ _ htD
      generalize upd GD r (.lst [.ref t, .ref q]) = GE at sE hE hqE huE htE ⊢
      have fE := fA.same sE
      refine ⟨_, rfl, p, l, 2, rfl, fE, c2, fun z2 G3 z20 z21 f3 b3 => ?_⟩
      have ulf : u ≠ lf := fun z => by have := sB _ _ LA; rw [← z, nu] at this; cases this
      have upr : u ≠ pr := fun z => by have := sB _ _ PA; rw [← z, nu] at this; cases this
      have qlf : q ≠ lf := fun z => by have := sC _ _ LA; rw [← z, nq] at this; cases this
      have qpr : q ≠ pr := fun z => by have := sC _ _ PA; rw [← z, nq] at this; cases this
      have rp : r ≠ p := (fE.lst hE)
      have hE3 := b3 _ _ rp hE
      have PE := sE _ _ PA
      have LE := sE _ _ LA
      have P3 := b3 _ _ prp PE
      have L3 := b3 _ _ lfp LE
      have hbE := (sE _ _ hb)
      obtain ⟨kv1, hAp⟩ := fA.at
      obtain ⟨kv2, hEp⟩ := fE.at
      obtain ⟨xv, hx, px⟩ : ∃ xv, ([.ref t, .ref q] : List V)[z2.toNat]? = some xv ∧ PairX lf pr GE n d y xv := by
        rcases (by omega : z2 = 0 ∨ z2 = 1) with z | z
        · subst z
          exact ⟨_, rfl, .inl ⟨t, b, rfl, htE, hbE⟩⟩
        · subst z
          exact ⟨_, rfl, .inr ⟨q, u, rfl, hqE, huE, qlf, qpr, ulf, upr⟩⟩
      have z2e : z2 = ((z2.toNat : Nat) : Int) := by omega
      refine ⟨r, _, _, _, rfl, rfl, SqL.of hE3, by rw [z2e]; exact atI_nat hx, pr, _, _, rfl, rfl, P3, by rw [av.1, sizeLine_eq]; omega, ?_⟩
      have bE : But3 p lf pr GE (upd G3 pr (.lst (vs ++ [xv]))) := fun x o h1 h2 h3 e => (upd_ne h3).trans (b3 _ _ h1 e)
      have bAE : But3 p lf pr GA (upd G3 pr (.lst (vs ++ [xv]))) := fun x o h1 h2 h3 e => bE x o h1 h2 h3 (sE _ _ e)
      refine ⟨_, _, xs ++ [y], zs.eraseIdx k, vs ++ [xv], rfl, f3.set prp prl, fun x o h1 e => (upd_ne (n2 _ _ e)).trans (b3 _ _ h1 (sE _ _ (bA _ _ h1 e))), (upd_ne lp).trans L3, upd_same, ?_, ?_, by rw [List.length_append, xl]; rfl⟩
      · exact K3.AllV.snoc (avA.mono fun x v w => PairX.up w bAE hAp LA PA) (PairX.up px bE hEp LE PE)
      · rw [List.append_assoc]
        exact (List.Perm.append_left xs (perm_erase hy).symm).trans pm
    · subst hσ
      rw [List.length_map, Int.toNat_natCast] at xl
      have pl := pm.length_eq
      rw [List.length_append] at pl
      have z0 : zs = [] := List.length_eq_zero_iff.mp (by omega)
      subst z0
      rw [List.append_nil] at pm
      have prp := fG.lst hP
      refine ⟨_, rfl, p, l, 2, rfl, fG, c2, fun z2 G3 z20 z21 f3 b3 => ?_⟩
      obtain ⟨kv1, hGp⟩ := fG.at
      have P3 := b3 _ _ prp hP
      have kp : ∀ x v, PairX lf pr G n d x v → PairR K G3 n d x v := fun x v w => by
        rcases w with ⟨t, c, e, ht, hc⟩ | ⟨t, u, e, ht, hu, _⟩
        · exact ⟨false, t, c, e, SqT.of (b3 _ _ (fun z => by rw [z, hGp] at ht; cases ht) ht), SqT.of (b3 _ _ (fun z => by rw [z, hGp] at hc; cases hc) hc)⟩
        · exact ⟨true, t, u, e, SqL.of (b3 _ _ (fun z => by rw [z, hGp] at ht; cases ht) ht), SqL.of (b3 _ _ (fun z => by rw [z, hGp] at hu; cases hu) hu)⟩
      have av3 := av.mono kp
      refine ⟨rfl, _, rfl, ite2 (fun _ => ?_) (fun _ => ?_)⟩
      · refine ⟨_, rfl, .inl ⟨pr, _, rfl, SqL.of P3, fun t nt => ?_⟩⟩
        exact go false t xs _ pm (f3.up nt) ((bG.trans b3).trans (But.new nt)) ⟨vs, SqT.of upd_same, av3.mono fun x v w => w.keep (Keeps.same (same_new nt))⟩
      · exact ⟨_, rfl, go true pr xs G3 pm f3 (bG.trans b3) ⟨vs, SqL.of P3, av3⟩⟩
end
end K5

set_option Elab.async false
set_option linter.all false
set_option maxRecDepth 100000
set_option maxHeartbeats 8000000
set_option autoImplicit false
set_option pp.maxSteps 600
/-! The law's names of a polynomial. -/
namespace K5
open PySem L2 K1D K2P K3
abbrev sNamesP : Stmt := K2P.top 47
def spNamesP (K : PySem.W.Frag) : Sp := fun vs H Q _ => ∃ (a : Addr) (p : Poly) (L : List Str) (e bb : Nat), vs = [.ref a] ∧ PolyF K H p a ∧ Tame L e bb p ∧ L.length < 64 ∧
  ∀ (la : Addr) (ys : List Str) (G : Hp), Same H G → H la = none → G la = some (.lst (ys.map V.str)) → UpS ys → (∀ x, x ∈ ys ↔ ∃ f ∈ facs p, f.1 = x) → Q (.ref la) G
/-- those of m that are not among zs -/
def newN (zs : List Str) (m : Mon) : List Str := (m.map (·.1)).filter fun x => !decide (x ∈ zs)
section
variable {P : Program} {w : World} {K : PySem.W.Frag} {mg : Str → Option Value} {base : Heap} {fD : Addr} {dD : FuncData}
theorem scNamesP : FnScope ["poly", "names", "monomial", "number", "sign", "exponent"] ["poly"] (defScope sNamesP) := ⟨rfl, rfl, rfl, by decide +kernel, rfl, by decide +kernel, by decide +kernel⟩
theorem ok_namesP {f : Addr} {fd : FuncData} (F : Fun K "_law_names" "_law_names" sNamesP f fd) (Z : DrawTxt P w K mg base fD dD) : FnOk P w K mg base CX0 1 f fd ["poly"] (spNamesP K) := by
  refine F.ok scNamesP (fun vs H Q E h => ?_) (fun cdv A outer s H vs Q E hr h => ?_)
  · obtain ⟨a, p, L, e, bb, rfl, _⟩ := h
    rfl
  · obtain ⟨a, p, L, e, bb, rfl, ⟨xs, hxs, kxs, fxs⟩, tp, l64, go⟩ := h
    refine ⟨_, (pss_cons (ps_set (i := 1) scNamesP.nd rfl (Or.inr rfl) (pe_lst pa_nil))
      (pss_cons (ps_for PassesOwn.never rfl (pi_tup (pv 0)) (pg_tup rfl (pgs_cons (pg_name (i := 2) scNamesP.nd rfl (Or.inl rfl)) (pgs_cons (pg_name (i := 3) scNamesP.nd rfl (Or.inl rfl)) pgs_nil))) (pss_one (ps_set (i := 1) scNamesP.nd rfl (Or.inr rfl) (pe_op op_cat (pv 1) (pe_lc (own := [("sign", 4), ("exponent", 5)]) (g := (gTup K 2 (gCons (gName 4) (gCons (gName 5) gNil)))) (tt := (tTest (tOp (rIn K true) (tVar 4) (tVar 1)))) (te := (tVar 4)) rfl scNamesP.nd (pi_tup (pv 2)) (blkOk_by (own := [("sign", 4), ("exponent", 5)]) (N := ["poly", "names", "monomial", "number", "sign", "exponent"]) (sc := defScope sNamesP) (by decide +kernel)) (fun _ _ _ _ _ => (pg_tup rfl (pgs_cons (pg_name (i := 4) scNamesP.nd rfl (Or.inl rfl)) (pgs_cons (pg_name (i := 5) scNamesP.nd rfl (Or.inl rfl)) pgs_nil)))) (fun _ _ _ _ _ => (pts_one (pt_cmpR op_notIn_seq (pv 4) (pv 1) (by rfl)))) (fun _ _ _ _ _ => (pv 4)))))))
      (pss_one (ps_ret (pe_callB cr_sortedS (by rfl) Z.sorted (by decide +kernel) (pa_cons (pv 1) pa_nil)))))), ?_⟩
    have ok := tp.ok
    refine ⟨by show 0 ≤ sizeLine; decide, fun nl nnl => ?_⟩
    have s1 := same_new (o := .lst []) nnl
    have e1 : upd H nl (.lst []) nl = some (.lst (([] : List Str).map V.str)) := upd_same
    generalize upd H nl (.lst []) = H1 at s1 e1 ⊢
    have lx : xs.length = p.length := by rw [K1P.keyVs_len kxs, List.length_map]
    refine ⟨_, rfl, a, rfl, ⟨xs, .inl (rds s1 hxs)⟩, ?_⟩
    refine for_it (walk_tup (K := K) (a := a) (xs := xs)) (fun i σ G => ∃ (u2 u3 : Option V) (ml : Addr) (zs : List Str), σ = [some (.ref a), some (.ref ml), u2, u3, none, none] ∧ Same H G ∧ G ml = some (.lst (zs.map V.str)) ∧ zs.Nodup ∧ ∀ x, x ∈ zs ↔ ∃ f ∈ facs (p.take i), f.1 = x)
      ⟨_, _, nl, [], rfl, s1, e1, .nil, fun x => ⟨fun z => (nomatch z), fun ⟨f, z, _⟩ => (nomatch z)⟩⟩ (fun i σ G _ ⟨_, _, _, _, _, s, _⟩ => .inl (rds s hxs)) (fun i x σ G G' hi ⟨u2, u3, ml, zs, hσ, sG, hM, nd, mem⟩ ⟨e', hv⟩ => ?_) (fun σ G ⟨u2, u3, ml, zs, hσ, sG, hM, nd, mem⟩ => ?_)
    · subst hσ e'
      obtain ⟨t, ht, kv⟩ := term_at kxs hv
      obtain ⟨q, u, rfl, hq, km⟩ := kv_term.mp kv
      obtain ⟨m, ms, rfl, hm, kms⟩ := kv_mon.mp km
      have lm : ms.length = t.1.length := by rw [K1P.keyVs_len kms, List.length_map]
      have mt : t ∈ p := List.mem_of_getElem? ht
      have mo := (ok.ok t mt).1
      refine ⟨q, _, rfl, SqT.of (sG _ _ hq), rfl, _, _, rfl, _, _, rfl, rfl, ?_⟩
      refine ⟨_, rfl, _, rfl, m, rfl, ⟨ms, .inl (rds sG hm)⟩, fun D nD => ?_⟩
      have lenN : ∀ j, (newN zs (t.1.take j)).length ≤ 64 := fun j => by
        refine Nat.le_trans (List.length_filter_le ..) ?_
        rw [List.length_map, List.length_take]
        have := mon_len mo fun f hf => (tp.at_ t mt f hf).1
        omega
      have zl : zs.length < 64 := by
        refine Nat.lt_of_le_of_lt (nodup_sub nd fun x hx => ?_) l64
        obtain ⟨f, hf, rfl⟩ := (mem x).mp hx
        obtain ⟨t', ht', q'⟩ := mem_facs.mp hf
        exact (tp.at_ t' (List.mem_of_mem_take ht') f q').1
      refine lc_tup (K := K) (a := m) (xs := ms) (fun (j : Nat) (F : Hp) => Same G' F ∧ F D = some (.lst ((newN zs (t.1.take j)).map V.str))) ⟨same_new nD, upd_same⟩
        (fun j F _ ⟨sf, _⟩ => .inl (rds sf (rds sG hm))) (fun j v F hv ⟨sf, hD⟩ => ?_) (fun F ⟨sf, hD⟩ => ?_)
      · obtain ⟨k, hk, kv⟩ := keyVs_get kms hv
        rw [List.getElem?_map] at hk
        obtain ⟨fc, hf, rfl⟩ := Option.map_eq_some_iff.mp hk
        obtain ⟨c, rfl, hc⟩ := kv_fac.mp kv
        refine ⟨c, _, rfl, SqT.of (sf _ _ (sG _ _ hc)), rfl, _, _, rfl, _, _, rfl, rfl, rfl, ?_⟩
        refine ⟨_, rfl, _, rfl, ml, _, rfl, .inl (SqL.of (sf _ _ hM)), rfl, by rw [List.all_map]; exact List.all_eq_true.mpr fun x _ => rfl, _, rfl, ?_⟩
        rw [in_strs]
        have en : newN zs (t.1.take (j + 1)) = newN zs (t.1.take j) ++ (if fc.1 ∈ zs then [] else [fc.1]) := by
          unfold newN
          rw [take_snoc hf, List.map_append, List.filter_append]
          congr 1
          by_cases z : fc.1 ∈ zs
          · simp [z]
          · simp [z]
        by_cases z : fc.1 ∈ zs
        · refine ifN (by simp [z]) ⟨sf, ?_⟩
          rw [en, if_pos z, List.append_nil]
          exact hD
        · refine ifY (by simp [z]) ⟨_, rfl, _, hD, by rw [List.length_map, sizeLine_eq]; have := lenN j; omega, fun b ob hb => (upd_ne fun w => by rw [w, nD] at hb; cases hb).trans (sf _ _ hb), ?_⟩
          rw [upd_same, en, if_neg z, List.map_append]
          rfl
      · rw [lm, List.take_length] at hD
        have lt := lenN t.1.length
        rw [List.take_length] at lt
        refine ⟨ml, D, _, _, rfl, rfl, sf _ _ hM, hD, by rw [List.length_map, List.length_map, sizeLine_eq]; omega, fun r nr => ?_⟩
        refine ⟨_, _, r, zs ++ newN zs t.1, rfl, sG.trans (sf.trans (same_new nr)), ?_, ?_, fun x => ?_⟩
        · rw [upd_same, List.map_append]
        · refine List.nodup_append.mpr ⟨nd, List.Pairwise.filter _ mo.nd, fun x hx y hy e => ?_⟩
          rw [← e] at hy
          have := (List.mem_filter.mp hy).2
          simp [hx] at this
        · rw [List.mem_append, facs_take ht]
          constructor
          · rintro (h | h)
            · obtain ⟨f, hf, e⟩ := (mem x).mp h
              exact ⟨f, List.mem_append_left _ hf, e⟩
            · obtain ⟨f, hf, e⟩ := List.mem_map.mp (List.mem_filter.mp h).1
              exact ⟨f, List.mem_append_right _ hf, e⟩
          · rintro ⟨f, hf, rfl⟩
            rcases List.mem_append.mp hf with h | h
            · exact .inl ((mem f.1).mpr ⟨f, h, rfl⟩)
            · by_cases z : f.1 ∈ zs
              · exact .inl z
              · exact .inr (List.mem_filter.mpr ⟨List.mem_map.mpr ⟨f, h, rfl⟩, by simp [z]⟩)
    · rw [lx, List.take_length] at mem
      subst hσ
      have zl : zs.length < 64 := by
        refine Nat.lt_of_le_of_lt (nodup_sub nd fun x hx => ?_) l64
        obtain ⟨f, hf, rfl⟩ := (mem x).mp hx
        obtain ⟨t', ht', q'⟩ := mem_facs.mp hf
        exact (tp.at_ t' ht' f q').1
      refine ⟨_, rfl, ml, _, rfl, SqL.of hM, zl, fun ys r pm so nr => ?_⟩
      have nH : H r = none := by
        cases z : H r with
        | none => rfl
        | some o => rw [sG _ _ z] at nr; cases nr
      exact go r ys _ (sG.trans (same_new nr)) nH upd_same (up_sorted so (pm.nodup_iff.mpr nd)) fun x => (pm.mem_iff).trans (mem x)
end
end K5

set_option Elab.async false
set_option linter.all false
set_option maxRecDepth 100000
set_option maxHeartbeats 4000000
set_option autoImplicit false
/-! {k1: v1, .., kn: vn}, the keys tuples. Speaks of no program. -/
namespace K1D
open PySem PySem.Spec PyProof.Rows L2
def putsN (es kvs : List NE) : List NE := es.foldl (fun acc x => putN acc x.1 x.2.1 x.2.2) kvs
def tNLit (K : PySem.W.Frag) (w : World) (trs : List (TE × TE)) : TE := fun σ H Q => ∀ p, H p = none → tPairs trs σ (upd H p (dN w p [])) fun ps H2 => ∃ es : List NE, ps = es.map (fun x => (V.ref x.2.1, x.2.2)) ∧ es.length ≤ 15 ∧ H2 p = some (dN w p []) ∧ KeysN K H2 es ∧ Q (.ref p) (upd H2 p (dN w p (putsN es [])))
theorem NR.puts : ∀ {es : List NE} {rs : List (NestedKey × Addr × Value)} {kvs : List NE} {xs : List (NestedKey × Addr × Value)}, NR es rs → NR kvs xs → NR (putsN es kvs) (storedAllH xs rs)
  | _, _, _, _, .nil, r => r
  | _, _, _, _, .cons ⟨e1, e2, ry⟩ t, r => by
    rename_i x y l1 l2
    have := NR.put r x.1 (b := x.2.1) ry
    show NR (putsN l1 (putN _ x.1 x.2.1 x.2.2)) (storedAllH (storedH _ y.1 y.2.1 y.2.2) l2)
    rw [← e1, ← e2]
    exact NR.puts t this
theorem len_putsN : ∀ (es kvs : List NE), (putsN es kvs).length ≤ kvs.length + es.length
  | [], kvs => Nat.le_refl _
  | x :: es, kvs => by
    have h1 := len_putsN es (putN kvs x.1 x.2.1 x.2.2)
    have h2 := length_putN kvs x.1 x.2.1 x.2.2
    rw [List.length_cons]
    refine Nat.le_trans h1 ?_
    omega
theorem carries_n {X : Cx} {pins : List (Addr × Obj)} {σ : L2.St} {H : Hp} {s : Shared} (I : Inv X pins σ H s) : ∀ {es : List NE} {ws : List (Value × Value)}, VV (es.map fun x => (V.ref x.2.1, x.2.2)) ws → KeysN X.K H es → ∃ rs, CarriesH (nestedKind X.prog X.w) s.heap ws rs ∧ NR es rs
  | [], _, r, _ => by
    cases r
    exact ⟨[], True.intro, .nil⟩
  | x :: es, _, r, ks => by
    cases r with
    | @cons _ w1 _ ws r1 r2 =>
      obtain ⟨kx, u⟩ := w1
      obtain ⟨rk, rv⟩ := r1
      have ek : kx = Value.ref x.2.1 := rk
      subst ek
      obtain ⟨rs, c, nr⟩ := carries_n I r2 fun y hy => ks y (List.mem_cons_of_mem _ hy)
      obtain ⟨kv, dk⟩ := ks x List.mem_cons_self
      exact ⟨(x.1, x.2.1, u) :: rs, ⟨rfl, rfl, nis I kv dk, c⟩, .cons ⟨rfl, rfl, rv⟩ nr⟩
theorem pe_nlit {X : Cx} {keys : List (Option Expr)} {values : List Expr} {pos : Pos} {trs : List (TE × TE)} (hu : X.A.units + 9 < cLine) (hp : PPs X pos keys values trs) (hall : keys.all (·.isSome) = true) (hl : keys.length = values.length) (h0 : pairTrees keys values X.env pos ≠ []) (h15 : (pairTrees keys values X.env pos).length ≤ 15) : PE X (.Dict keys values pos) (tNLit X.K X.w trs) := by
  refine ⟨fun pins s σ H Q I q => ?_⟩
  have hn := I.hok.fresh (Nat.le_refl s.heap.objs.size)
  have I1 := I.laid (a := s.heap.objs.size) (o := dN X.w s.heap.objs.size []) (h' := s.heap.push { cls := .type "dict", data := .dict #[] }) (t' := s.toks) (fun _ _ q => Heap.get?_push_of_some _ q) (Nat.le_refl _) (dn_empty s.heap I.big)
  rw [arm_eval_Dict, zip_pairTrees keys values X.env pos hall hl, dictDisplay_pairs (pairTrees keys values X.env pos) h0 (by omega)]
  refine wpAny_bind (wpAny_standAt (wpAny_bind (wpAny_subDictH (knd := nestedKind X.prog X.w) (nroom0 (by omega)) h15 (thn (hp.run pins _ σ _ (fun ps H2 => ∃ es : List NE, ps = es.map (fun x => (V.ref x.2.1, x.2.2)) ∧ es.length ≤ 15 ∧ H2 s.heap.objs.size = some (dN X.w s.heap.objs.size []) ∧ KeysN X.K H2 es ∧ Q (.ref s.heap.objs.size) (upd H2 s.heap.objs.size (dN X.w s.heap.objs.size (putsN es [])))) I1 ?_) fun ws s2 ⟨ps, H2, I2, rel, es, ep, l15, e, kv, q2⟩ => ?_))))
  · exact q _ hn
  · subst ep
    obtain ⟨z, hs, xs, nr, dd⟩ := dn_rd I2 (.inl e) (fun x hx => nomatch hx)
    cases nr
    obtain ⟨rs, c, nr1⟩ := carries_n I2 rel kv
    refine ⟨rs, c, dd, fun h' tk dd' hs' => wpAny_pure ⟨.ref s.heap.objs.size, _, ?_, rfl, q2⟩⟩
    have he : ∃ q, h'.get? s.heap.objs.size = some q := let ⟨q, _, _, hq, _⟩ := dd'; ⟨q, hq⟩
    have ln := len_putsN es []
    have lz : (putsN es []).length ≤ sizeLine := by
      rw [List.length_nil] at ln
      rw [sizeLine_eq]
      omega
    exact d_write I2 (by rw [e]; exact True.intro) hs' he (dn_ok (NIn.of lz hs (NR.puts nr1 .nil) dd'))
end K1D

set_option Elab.async false
set_option linter.all false
set_option maxRecDepth 100000
set_option maxHeartbeats 8000000
set_option autoImplicit false
set_option pp.maxSteps 600
set_option exponentiation.threshold 1000
/-! The law's drawn polynomials. -/
namespace K5
open PySem L2 K1D K2P K3
abbrev sDrawn : Stmt := K2P.top 49
/-- rooms of a drawn polynomial -/
structure DrawnP (ns : List Str) (P : Poly) (L : List Str) (e : Nat) : Prop where
  tp : Tame L e 134 P
  sub : ∀ x ∈ L, x ∈ ns
  nd : L.Nodup
  le : L.length * e ≤ 80
  e80 : e ≤ 80
  len : P.length ≤ 6
def spDrawn (K : PySem.W.Frag) : Sp := fun vs H Q _ => ∃ (p l la : Addr) (ns : List Str), vs = [.ref p, .ref la] ∧ TapeL H p l ∧ H la = some (.lst (ns.map V.str)) ∧ Sg ns ∧
  ∀ (a : Addr) (P : Poly) (L : List Str) (e : Nat) (G : Hp), PolyF K G P a → DrawnP ns P L e → TapeL G p l → But p H G → Q (.ref a) G
theorem polyT_len (T : Poly) : (polyT T).length ≤ T.length := by
  unfold polyT
  rw [List.length_mergeSort]
  exact List.length_filter_le ..
section
variable {P : Program} {w : World} {K : PySem.W.Frag} {mg : Str → Option Value} {base : Heap} {fD fB fY fW : Addr} {dD dB dY dW : FuncData}
theorem scDrawn : FnScope ["tape", "signs", "poly", "sign"] ["tape", "signs"] (defScope sDrawn) := ⟨rfl, rfl, rfl, by decide +kernel, rfl, by decide +kernel, by decide +kernel⟩
theorem ok_drawn {f : Addr} {fd : FuncData} (F : Fun K "_law_drawn" "_law_drawn" sDrawn f fd) (Z : DrawTxt P w K mg base fD dD) (B : CallT P w K mg base CX0 4 "_law_table" ["tape", "signs", "terms", "height", "great"] (spTable K w) fB dB)
    (Y : CallT P w K mg base CX0 1 "_law_poly" ["table"] (spPolyT K w) fY dY) (W : CallT P w K mg base CX0 3 "_law_factor" ["tape", "great"] spFactor fW dW) : FnOk P w K mg base CX0 5 f fd ["tape", "signs"] (spDrawn K) := by
  refine F.ok scDrawn (fun vs H Q E h => ?_) (fun cdv A outer s H vs Q E hr h => ?_)
  · obtain ⟨p, l, la, ns, rfl, _⟩ := h
    rfl
  · obtain ⟨p, l, la, ns, rfl, hf, hla, sg, go⟩ := h
    refine ⟨_, (pss_cons (ps_set (i := 2) scDrawn.nd rfl (Or.inl rfl) (pe_call Y.ok (hr.mono (by decide)) rfl Y.g Y.k Y.b .nil pass0 (pa_cons (pe_call B.ok (hr.mono (by decide)) rfl B.g B.k B.b .nil pass0 (pa_cons (pv 0) (pa_cons (pv 1) (pa_cons pe_int (pa_cons pe_int (pa_cons (pe_op op_pow pe_int pe_int) pa_nil)))))) pa_nil)))
      (pss_cons (ps_if (pt_cmpR op_eq (pe_call Z.d.ok (hr.mono (by decide)) rfl Z.d.g Z.d.k Z.d.b .nil pass0 (pa_cons (pv 0) (pa_cons pe_int pa_nil))) pe_int (nomark _)) (pss_cons (ps_set (i := 3) scDrawn.nd rfl (Or.inl rfl) (pe_ix ix_list (pv 1) (pe_call Z.d.ok (hr.mono (by decide)) rfl Z.d.g Z.d.k Z.d.b .nil pass0 (pa_cons (pv 0) (pa_cons (pe_callB call_len_seq (by rfl) Z.len PySem.boot_len (pa_cons (pv 1) pa_nil)) pa_nil))) (fun _ _ => rfl)))
      (pss_one (ps_set (i := 2) scDrawn.nd rfl (Or.inl rfl) (pe_call Y.ok (hr.mono (by decide)) rfl Y.g Y.k Y.b .nil pass0 (pa_cons (pe_nlit (K1P.hu9 hr) (pps_cons (pe_tupF (pa_cons (pe_tup (pa_cons (pv 3) (pa_cons (pe_op op_add pe_int (pe_call Z.d.ok (hr.mono (by decide)) rfl Z.d.g Z.d.k Z.d.b .nil pass0 (pa_cons (pv 0) (pa_cons pe_int pa_nil)))) pa_nil))) pa_nil)) (pe_call W.ok (hr.mono (by decide)) rfl W.g W.k W.b .nil pass0 (pa_cons (pv 0) (pa_cons (pe_op op_pow pe_int pe_int) pa_nil))) (pps_cons (pe_tupF pa_nil) pe_int (pps_cons (pe_tupF (pa_cons (pe_tup (pa_cons (pv 3) (pa_cons pe_int pa_nil))) pa_nil)) (pe_un un_neg pe_int) pps_nil))) (by rfl) (by rfl) (fun z => by cases z) (by show 3 ≤ 15; decide)) pa_nil))))) pss_nil)
      (pss_one (ps_ret (pv 2))))), ?_⟩
    obtain ⟨g, eg, g6, g133⟩ : ∃ g : Nat, ((10 : Int) ^ (40 : Int).toNat) = (g : Int) ∧ 1000000 ≤ g ∧ g < 2 ^ 133 := ⟨10 ^ 40, by decide +kernel, by decide +kernel, by decide +kernel⟩
    have g8 : g < 2 ^ 8000 := Nat.lt_of_lt_of_le g133 (Nat.pow_le_pow_right (by decide) (by decide))
    have lap := hf.lst hla
    have l6 := sg.l6
    have c5 : ((5 : Int)).natAbs < 2 ^ 8000 := b8000 (n := 10) (by decide) (by decide)
    have c34 : ((34 : Int)).natAbs < 2 ^ 8000 := b8000 (n := 10) (by decide) (by decide)
    refine ⟨_, rfl, _, rfl, _, _, rfl, rfl, ⟨by decide, by decide, by decide⟩, p, l, la, ns, 6, 6, g, by rw [← eg]; rfl, hf, hla, sg, by decide, by decide, g6, g8, fun d T G1 f1 b1 nd1 dT tT => ?_⟩
    have ndT := dT.nd
    refine ⟨d, T, rfl, dT, fun t ht => (tT.ok t ht).1, by have := tT.len; rw [sizeLine_eq]; omega, fun a G2 s2 pF => ?_⟩
    have f2 := f1.same s2
    have b2 := b1.trans (But.same s2)
    have hla2 := b2 _ _ lap hla
    have first : DrawnP ns (polyT T) ns 6 := ⟨polyT_tame tT ndT (Nat.lt_trans g133 (Nat.pow_lt_pow_right (by decide) (by decide))) (by decide), fun x h => h, sg.nd, by omega, by decide, Nat.le_trans (polyT_len T) tT.len⟩
    refine ⟨_, rfl, p, l, 5, rfl, f2, c5, fun z G3 z0 z1 f3 b3 => ?_⟩
    have b3' := b2.trans b3
    have pF3 := PolyF.up pF (f2.tups b3)
    refine ⟨rfl, _, rfl, ite2 (fun _ => ?_) (fun _ => ⟨_, rfl, go a _ ns 6 G3 pF3 first f3 b3'⟩)⟩
    have hla3 := b3' _ _ lap hla
    have ln : 0 < ns.length := List.length_pos_iff.mpr sg.ne
    refine ⟨_, rfl, _, rfl, _, rfl, la, _, rfl, .inl (SqL.of hla3), p, l, _, rfl, f3, ?_, fun k G4 k0 k1 f4 b4 => ?_⟩
    · rw [List.length_map]
      exact b8000 (n := 10) (by omega) (by decide)
    rw [List.length_map] at k1
    obtain ⟨k, rfl⟩ : ∃ j : Nat, k = j := ⟨k.toNat, by omega⟩
    have kl : k < ns.length := by omega
    have hv : (ns.map V.str)[k]? = some (.str ns[k]) := by simp [kl]
    have xm : ns[k] ∈ ns := List.getElem_mem kl
    have b4' := b3'.trans b4
    have hla4 := b4' _ _ lap hla
    refine ⟨la, _, _, _, rfl, rfl, SqL.of hla4, atI_nat hv, ?_⟩
    generalize ns[k] = x at xm ⊢
    refine fun D nD => ?_
    have c7 : ∀ {z : Int}, 0 ≤ z → z < 34 ∨ z = 0 → 1 ≤ 7 + z ∧ 7 + z ≤ 40 := fun {z} h1 h2 => by omega
    change tPairs _ _ (upd G4 D (dN w D [])) _
    have f5 := f4.up (o := dN w D []) nD
    have b5 : But p H (upd G4 D (dN w D [])) := b4'.trans (But.new nD)
    have hD5 : upd G4 D (dN w D []) D = some (dN w D []) := upd_same
    have Dp := (f4.none nD).1
    generalize upd G4 D (dN w D []) = H5 at f5 b5 hD5 ⊢
    refine ⟨_, rfl, _, rfl, p, l, 34, rfl, f5, c34, fun z1 G5 z10 z11 f6 b6 => ?_⟩
    obtain ⟨e1, e40⟩ := c7 z10 z11
    have hD6 := b6 _ _ Dp hD5
    have b6' := b5.trans b6
    refine ⟨_, _, rfl, rfl, by show 2 ≤ sizeLine; decide, fun t1 nt1 => ⟨by show 1 ≤ sizeLine; decide, fun q1 o1 nq1 od1 => ?_⟩⟩
    have sA := same_new (o := .tup [.str x, .int (7 + z1)]) nt1
    have hA : upd G5 t1 (.tup [.str x, .int (7 + z1)]) t1 = some (.tup [.str x, .int (7 + z1)]) := upd_same
    have sB := sA.trans (same_new (o := .frz o1 (.tup [.ref t1])) nq1)
    have hB : upd (upd G5 t1 (.tup [.str x, .int (7 + z1)])) q1 (.frz o1 (.tup [.ref t1])) q1 = some (.frz o1 (.tup [.ref t1])) := upd_same
    have hA2 := same_new (o := .frz o1 (.tup [.ref t1])) nq1 _ _ hA
    generalize upd (upd G5 t1 (.tup [.str x, .int (7 + z1)])) q1 (.frz o1 (.tup [.ref t1])) = H7 at sB hB hA2 ⊢
    have f7 := f6.same sB
    have b7 := b6'.trans (But.same sB)
    have hD7 := sB _ _ hD6
    have fz : ∀ {m : Mon}, ∀ k ∈ m.map K2P.facK, ∃ l, k = .tup l := fun {m} k hk => by
      obtain ⟨y, _, rfl⟩ := List.mem_map.mp hk
      exact ⟨_, rfl⟩
    have k1 : KeyV K H7 (K2P.monK [(x, 7 + z1)]) (.ref q1) := .frz hB fz (.cons (.tup hA2 (.cons (.str x) (.cons (.int _) .nil))) .nil)
    have g1 : FrzT H7 q1 := ⟨o1, _, hB, od1⟩
    have m6 : (1000000 : Nat) < 2 ^ 8000 := Nat.lt_of_lt_of_le (show (1000000 : Nat) < 2 ^ 20 by decide) (Nat.pow_le_pow_right (by decide) (by decide))
    refine ⟨_, rfl, _, _, rfl, rfl, ⟨by decide, by decide, by decide⟩, p, l, 1000000, by show [V.ref p, V.int ((10 : Int) ^ (6 : Int).toNat)] = _; rw [show ((10 : Int) ^ (6 : Int).toNat) = 1000000 from by decide]; rfl, f7, Nat.le_refl _, m6, fun c1 G8 c1n c1l f8 b8 => ?_⟩
    have hD8 := b8 _ _ Dp hD7
    have k1' := KeyV.up (f7.tups b8) _ _ k1
    have g1' := FrzT.up g1 (f7.tups (K := K) b8)
    have b8' := b7.trans b8
    refine ⟨by show 0 ≤ sizeLine; decide, fun q2 o2 nq2 od2 => ?_⟩
    have sC := same_new (o := .frz o2 (.tup [])) nq2
    have hC : upd G8 q2 (.frz o2 (.tup [])) q2 = some (.frz o2 (.tup [])) := upd_same
    generalize upd G8 q2 (.frz o2 (.tup [])) = H9 at sC hC ⊢
    refine ⟨_, rfl, by show 2 ≤ sizeLine; decide, fun t3 nt3 => ⟨by show 1 ≤ sizeLine; decide, fun q3 o3 nq3 od3 => ?_⟩⟩
    have sE := same_new (o := .tup [.str x, .int 1]) nt3
    have hE : upd H9 t3 (.tup [.str x, .int 1]) t3 = some (.tup [.str x, .int 1]) := upd_same
    have sF := sE.trans (same_new (o := .frz o3 (.tup [.ref t3])) nq3)
    have hF : upd (upd H9 t3 (.tup [.str x, .int 1])) q3 (.frz o3 (.tup [.ref t3])) q3 = some (.frz o3 (.tup [.ref t3])) := upd_same
    have hE2 := same_new (o := .frz o3 (.tup [.ref t3])) nq3 _ _ hE
    generalize upd (upd H9 t3 (.tup [.str x, .int 1])) q3 (.frz o3 (.tup [.ref t3])) = H11 at sF hF hE2 ⊢
    have s11 : Same G8 H11 := sC.trans sF
    have f11 := f8.same s11
    have b11 := b8'.trans (But.same s11)
    have hD11 := s11 _ _ hD8
    have kA := KeyV.up (K1P.same_tups s11) _ _ k1'
    have gA := FrzT.up g1' (K1P.same_tups (K := K) s11)
    have hC11 := sF _ _ hC
    have kB : KeyV K H11 (K2P.monK []) (.ref q2) := .frz hC11 (fun k hk => nomatch hk) .nil
    have gB : FrzT H11 q2 := ⟨o2, _, hC11, od2⟩
    have kC : KeyV K H11 (K2P.monK [(x, 1)]) (.ref q3) := .frz hF fz (.cons (.tup hE2 (.cons (.str x) (.cons (.int _) .nil))) .nil)
    have gC : FrzT H11 q3 := ⟨o3, _, hF, od3⟩
    have dk : ∀ m : Mon, (K2P.monK m).depth ≤ 8 := fun m => Nat.le_trans (dep_mon m) (by decide)
    refine ⟨_, rfl, [(K2P.monK [(x, 7 + z1)], q1, .int c1), (K2P.monK [], q2, .int 1), (K2P.monK [(x, 1)], q3, .int (-2))], rfl, by show 3 ≤ 15; decide, hD11, fun y hy => ?_, ?_⟩
    · rcases List.mem_cons.mp hy with h | hy
      · rw [h]; exact ⟨kA, dk _⟩
      rcases List.mem_cons.mp hy with h | hy
      · rw [h]; exact ⟨kB, dk _⟩
      · rw [List.mem_singleton.mp hy]; exact ⟨kC, dk _⟩
    have K0 : KeysF K H11 [] := ⟨fun x hx => (nomatch hx), fun x hx => (nomatch hx)⟩
    have K3' := ((K0.put (v := .int c1) kA (dk _) gA).put (v := .int 1) kB (dk _) gB).put (v := .int (-2)) kC (dk _) gC
    have I0 : IntsN [] (niT []) := rfl
    have I1 := ints_put I0 (K2P.monK [(x, 7 + z1)]) q1 c1
    rw [putI_ni] at I1
    have I2 := ints_put I1 (K2P.monK []) q2 1
    rw [putI_ni] at I2
    have I3 := ints_put I2 (K2P.monK [(x, 1)]) q3 (-2)
    rw [putI_ni] at I3
    have M3 : TabM [x] 40 1000000 3 (putT (putT (putT [] [(x, 7 + z1)] c1) [] 1) [(x, 1)] (-2)) := by
      refine ((TabM.nil.put ⟨List.pairwise_singleton .., fun f hf => ?_⟩ (fun f hf => ?_) c1l).put ⟨.nil, fun f hf => (nomatch hf)⟩ (fun f hf => (nomatch hf)) (by decide)).put ⟨List.pairwise_singleton .., fun f hf => ?_⟩ (fun f hf => ?_) (by decide)
      · rw [List.mem_singleton.mp hf]; exact e1
      · rw [List.mem_singleton.mp hf]; exact ⟨List.mem_singleton.mpr rfl, e40⟩
      · rw [List.mem_singleton.mp hf]; exact Int.le_refl _
      · rw [List.mem_singleton.mp hf]; exact ⟨List.mem_singleton.mpr rfl, by show (1 : Int) ≤ 40; decide⟩
    have N3 : ((putT (putT (putT ([] : Poly) [(x, 7 + z1)] c1) [] 1) [(x, 1)] (-2)).map (·.1)).Nodup := nodup_putT (nodup_putT (nodup_putT (T := []) List.nodup_nil _ _) _ _) _ _
    have HD := but_none b4' f4 nD
    refine ⟨D, _, rfl, ⟨_, upd_same, KeysF.up K3' (Tups.put (not_tup_dN hD11)), I3, nodup_ni.mpr N3⟩, fun t ht => (M3.ok t ht).1, by have := M3.len; rw [sizeLine_eq]; omega, fun a2 G9 s9 pF9 => ?_⟩
    refine ⟨_, rfl, go a2 _ [x] 40 G9 pF9 ⟨polyT_tame M3 N3 (Nat.lt_of_lt_of_le (show (1000000 : Nat) < 2 ^ 20 by decide) (Nat.pow_le_pow_right (by decide) (by decide))) (by decide), fun y hy => by rw [List.mem_singleton.mp hy]; exact xm, List.nodup_cons.mpr ⟨(fun z => nomatch z), .nil⟩, by show 1 * 40 ≤ 80; decide, by decide, Nat.le_trans (polyT_len _) (Nat.le_trans M3.len (by decide))⟩ ((f11.setD hD11).same s9) ((b11.set HD).trans (But.same s9))⟩
end
end K5

set_option Elab.async false
set_option linter.all false
set_option maxRecDepth 100000
set_option maxHeartbeats 4000000
set_option autoImplicit false
set_option exponentiation.threshold 1000
/-! How great a value may be; what stands through calls that alter code tables. -/
namespace K5
open PySem L2 K1D K2P K3
theorem sumN_eq (e : Nat) : ∀ ns : List Str, sumN ns (fun _ => e) = ns.length * e
  | [] => (Nat.zero_mul _).symm
  | x :: ns => by
    show e + sumN ns (fun _ => e) = _
    rw [sumN_eq e ns, List.length_cons, Nat.succ_mul, Nat.add_comm]
theorem over_abs {n d : Str → Int} {L : List Str} {e bb : Nat} (nd : L.Nodup) (bn : ∀ x ∈ L, (n x).natAbs < 2 ^ 100) (bd : ∀ x ∈ L, (d x).natAbs < 2 ^ 100) : ∀ {p : Poly}, (∀ t ∈ p, MonOk t.1 ∧ t.2.natAbs < 2 ^ bb ∧ ∀ f ∈ t.1, f.1 ∈ L ∧ f.2 ≤ (e : Int)) →
    (overP n d L (fun _ => e) p).natAbs ≤ p.length * 2 ^ (bb + 100 * (L.length * e) + 100 * (L.length * e))
  | [], _ => Nat.zero_le _
  | t :: p, h => by
    have ih := over_abs nd bn bd (p := p) fun u hu => h u (List.mem_cons_of_mem _ hu)
    obtain ⟨mo, tb, tf⟩ := h t List.mem_cons_self
    have w1 : (evM n t.1).natAbs ≤ 2 ^ (100 * (L.length * e)) := by
      rw [evM_ex n nd fun f hf => (tf f hf).1]
      refine Nat.le_trans (evX_abs bn) (Nat.pow_le_pow_right (by decide) (Nat.mul_le_mul_left _ ?_))
      rw [← sumN_eq]
      exact sumN_le fun x _ => exM_le mo (fun f hf => (tf f hf).2) x
    have w2 : (evX d L (gapE (fun _ => e) (exM t.1))).natAbs ≤ 2 ^ (100 * (L.length * e)) := by
      refine Nat.le_trans (evX_abs bd) (Nat.pow_le_pow_right (by decide) (Nat.mul_le_mul_left _ ?_))
      rw [← sumN_eq]
      exact sumN_le fun x _ => Nat.sub_le _ _
    have w3 : (t.2 * evM n t.1 * evX d L (gapE (fun _ => e) (exM t.1))).natAbs ≤ 2 ^ (bb + 100 * (L.length * e) + 100 * (L.length * e)) := by
      rw [Int.natAbs_mul, Int.natAbs_mul, Nat.pow_add, Nat.pow_add]
      exact Nat.mul_le_mul (Nat.mul_le_mul (Nat.le_of_lt tb) w1) w2
    show (_ + overP n d L (fun _ => e) p).natAbs ≤ _
    refine Nat.le_trans (Int.natAbs_add_le _ _) ?_
    rw [List.length_cons, Nat.succ_mul, Nat.add_comm]
    exact Nat.add_le_add ih w3
theorem rP_bound {n d : Str → Int} {L : List Str} {e bb : Nat} {p : Poly} (nd : L.Nodup) (tp : Tame L e bb p) (bn : ∀ x ∈ L, (n x).natAbs < 2 ^ 100 ∧ 0 < d x ∧ (d x).natAbs < 2 ^ 100) :
    (rP (frac n d) p).num.natAbs ≤ p.length * 2 ^ (bb + 100 * (L.length * e) + 100 * (L.length * e)) ∧ (rP (frac n d) p).den ≤ 2 ^ (100 * (L.length * e)) := by
  have dp : ∀ x ∈ L, 0 < d x := fun x hx => (bn x hx).2.1
  have over := over_rat (n := n) (h := fun _ => e) nd dp (p := p) (fun t ht f hf => (tp.at_ t ht f hf).1) fun t ht x _ => exM_le (tp.ok.ok t ht).1 (fun f hf => (tp.at_ t ht f hf).2) x
  have ab := over_abs nd (fun x hx => (bn x hx).1) (fun x hx => (bn x hx).2.2) (p := p) fun t ht => ⟨(tp.ok.ok t ht).1, tp.bits t ht, tp.at_ t ht⟩
  have wp := evX_pos (fun _ => e) dp
  have wb := evX_abs (f := fun _ => e) (fun x hx => (bn x hx).2.2)
  rw [sumN_eq] at wb
  generalize overP n d L (fun _ => e) p = T at over ab
  obtain ⟨W, hW⟩ := Int.eq_ofNat_of_zero_le (Int.le_of_lt wp)
  rw [hW] at wp wb over
  have w0 : W ≠ 0 := by omega
  rw [Int.natAbs_natCast] at wb
  have eq := mk_of w0 (by rw [over]; rfl)
  rw [← eq]
  exact ⟨Nat.le_trans (mk_num_le T w0) ab, Nat.le_trans (mk_den_le T w0) wb⟩
theorem SpotD.mv {H G : Hp} {sp p l : Addr} {n d : Str → Int} {R : List (Str × Addr)} {ns : List Str} (q : SpotD H sp n d R ns) (m : Mv p H G) (t : TapeL H p l) (ne : sp ≠ p) : SpotD G sp n d R ns := by
  obtain ⟨kvs, hp⟩ := t.at
  exact ⟨m _ _ ne (fun ps z => nomatch z) q.at_, q.ks, fun x hx => m _ _ (fun z => by have := q.ls x hx; rw [z, hp] at this; cases this) (fun ps z => nomatch z) (q.ls x hx), q.nd, q.b⟩
/-- two answers that are one -/
theorem alike_two {H : Hp} {a b : Addr} {i j : Int} (h : H a = some (.tup [.int i, .int j])) (g : H b = some (.tup [.int i, .int j])) : Alike H 1 (.ref a) (.ref b) := by
  refine .tup h g rfl (by show 2 ≤ sizeLine; decide) fun k x y hx hy => ?_
  rw [hx] at hy
  cases hy
  match k with
  | 0 => cases hx; exact .int _ _
  | 1 => cases hx; exact .int _ _
  | k + 2 => simp at hx
end K5

set_option Elab.async false
set_option linter.all false
set_option maxRecDepth 100000
set_option maxHeartbeats 8000000
set_option autoImplicit false
set_option pp.maxSteps 600
set_option exponentiation.threshold 1000
/-! Sums and products at fractions. -/
namespace K5
open PySem L2 K1D K2P K3
open LamX (Tabs ExtN TabB)
abbrev sTwo : Stmt := K2P.top 50
def spTwo (K : PySem.W.Frag) (Pt : Addr) : Sp := fun vs H Q _ => ∃ (p l la sp a b : Addr) (ns : List Str) (A B : Poly) (n d : Str → Int) (R : List (Str × Addr)), vs = [.ref p, .ref la, .ref sp, .ref a, .ref b] ∧ Tabs (lamT Pt) H ∧ TapeL H p l ∧ PolyF K H A a ∧ PolyF K H B b ∧ SpotD H sp n d R ns ∧ sp ≠ p ∧ NamesL ns ∧
  Fit ns 3 34 3 A ∧ Fit ns 3 34 3 B ∧ ∀ G : Hp, Tabs (lamT Pt) G → TapeL G p l → Mv p H G → Q (.bl true) G
structure TwoTxt (P : Program) (w : World) (K : PySem.W.Frag) (mg : Str → Option Value) (base : Heap) (Pt fA fM fR fL fS fV fP f1 : Addr) (dA dM dR dL dS dV dP d1 : FuncData) : Prop where
  yA : CallT P w K mg base CX0 3 "added" ["p", "q"] (spAddB K) fA dA
  yM : CallT P w K mg base CX0 4 "multiplied" ["p", "q"] (spMulG K Pt) fM dM
  yR : CallT P w K mg base CX0 3 "_law_reckoned" ["poly", "spot"] (spReck K) fR dR
  yL : CallT P w K mg base CX0 2 "_law_lowest" ["top", "bottom"] spLow fL dL
  yS : CallT P w K mg base CX0 2 "_law_same" ["actual", "due"] (spSame 1) fS dS
  yV : CallT P w K mg base CX0 2 "value" ["p", "pairs"] (spVal K) fV dV
  yP : CallT P w K mg base CX0 3 "_law_pairs" ["tape", "names", "spot"] (spPairs K) fP dP
  y1 : CallT P w K mg base CX0 2 "variables" ["p"] (spVars K) f1 d1
  list : mg "list" = none
theorem spot_bound {ns : List Str} {n d : Str → Int} {A : Poly} (nm : NamesL ns) (f : Fit ns 3 34 3 A) (b : ∀ x ∈ ns, (n x).natAbs < 2 ^ 100 ∧ 0 < d x ∧ (d x).natAbs < 2 ^ 100) : (rP (frac n d) A).num.natAbs < 2 ^ 5000 ∧ (rP (frac n d) A).den < 2 ^ 1801 := by
  obtain ⟨h1, h2⟩ := rP_bound nm.nd f.t b
  have l6 := nm.l6
  refine ⟨Nat.lt_of_le_of_lt h1 ?_, Nat.lt_of_le_of_lt h2 (Nat.pow_lt_pow_right (by decide) (by omega))⟩
  have h3 : A.length ≤ 2 ^ 2 := Nat.le_trans f.len (by decide)
  refine Nat.lt_of_le_of_lt (Nat.mul_le_mul_right _ h3) ?_
  rw [← Nat.pow_add]
  exact Nat.pow_lt_pow_right (by decide) (by omega)
section
variable {P : Program} {w : World} {K : PySem.W.Frag} {mg : Str → Option Value} {base : Heap} {Pt fA fM fR fL fS fV fP f1 : Addr} {dA dM dR dL dS dV dP d1 : FuncData}
theorem scTwo : FnScope ["tape", "signs", "spot", "one", "two", "top", "told", "first", "second", "due"] ["tape", "signs", "spot", "one", "two"] (defScope sTwo) := ⟨rfl, rfl, rfl, by decide +kernel, rfl, by decide +kernel, by decide +kernel⟩
theorem ok_two {f : Addr} {fd : FuncData} (F : Fun K "_law_two_right" "_law_two_right" sTwo f fd) (Y : TwoTxt P w K mg base Pt fA fM fR fL fS fV fP f1 dA dM dR dL dS dV dP d1) : FnOk P w K mg base CX0 6 f fd ["tape", "signs", "spot", "one", "two"] (spTwo K Pt) := by
  refine F.ok scTwo (fun vs H Q E h => ?_) (fun cdv Ar outer s H vs Q E hr h => ?_)
  · obtain ⟨p, l, la, sp, a, b, ns, A, B, n, d, R, rfl, _⟩ := h
    rfl
  · obtain ⟨p, l, la, sp, a, b, ns, A, B, n, d, R, rfl, tb, hf, pA, pB, ks, spp, nm, fitA, fitB, go⟩ := h
    refine ⟨_, (pss_cons (ps_for PassesOwn.never rfl (pi_list (pe_lst (pa_cons (pe_tup (pa_cons pe_str (pa_cons (pe_call Y.yA.ok (hr.mono (by decide)) rfl Y.yA.g Y.yA.k Y.yA.b .nil pass0 (pa_cons (pv 3) (pa_cons (pv 4) pa_nil))) pa_nil))) (pa_cons (pe_tup (pa_cons pe_str (pa_cons (pe_call Y.yM.ok (hr.mono (by decide)) rfl Y.yM.g Y.yM.k Y.yM.b .nil pass0 (pa_cons (pv 3) (pa_cons (pv 4) pa_nil))) pa_nil))) pa_nil)))) (pg_tup rfl (pgs_cons (pg_name (i := 5) scTwo.nd rfl (Or.inl rfl)) (pgs_cons (pg_name (i := 6) scTwo.nd rfl (Or.inl rfl)) pgs_nil))) (pss_cons (ps_set (i := 7) scTwo.nd rfl (Or.inl rfl) (pe_call Y.yR.ok (hr.mono (by decide)) rfl Y.yR.g Y.yR.k Y.yR.b .nil pass0 (pa_cons (pv 3) (pa_cons (pv 2) pa_nil))))
      (pss_cons (ps_set (i := 8) scTwo.nd rfl (Or.inl rfl) (pe_call Y.yR.ok (hr.mono (by decide)) rfl Y.yR.g Y.yR.k Y.yR.b .nil pass0 (pa_cons (pv 4) (pa_cons (pv 2) pa_nil))))
      (pss_cons (ps_set (i := 9) scTwo.nd rfl (Or.inl rfl) (pe_call Y.yL.ok (hr.mono (by decide)) rfl Y.yL.g Y.yL.k Y.yL.b .nil pass0 (pa_cons (pe_op op_mulW (pe_ix ix_tup (pv 7) pe_int (fun _ _ => rfl)) (pe_ix ix_tup (pv 8) pe_int (fun _ _ => rfl))) (pa_cons (pe_op op_mulW (pe_ix ix_tup (pv 7) pe_int (fun _ _ => rfl)) (pe_ix ix_tup (pv 8) pe_int (fun _ _ => rfl))) pa_nil))))
      (pss_cons (ps_if (pt_cmpR op_eq (pv 5) pe_str (nomark _)) (pss_one (ps_set (i := 9) scTwo.nd rfl (Or.inl rfl) (pe_call Y.yL.ok (hr.mono (by decide)) rfl Y.yL.g Y.yL.k Y.yL.b .nil pass0 (pa_cons (pe_op op_add (pe_op op_mulW (pe_ix ix_tup (pv 7) pe_int (fun _ _ => rfl)) (pe_ix ix_tup (pv 8) pe_int (fun _ _ => rfl))) (pe_op op_mulW (pe_ix ix_tup (pv 8) pe_int (fun _ _ => rfl)) (pe_ix ix_tup (pv 7) pe_int (fun _ _ => rfl)))) (pa_cons (pe_op op_mulW (pe_ix ix_tup (pv 7) pe_int (fun _ _ => rfl)) (pe_ix ix_tup (pv 8) pe_int (fun _ _ => rfl))) pa_nil))))) pss_nil)
      (pss_one (ps_if (pt_not (pt_val (pe_call Y.yS.ok (hr.mono (by decide)) rfl Y.yS.g Y.yS.k Y.yS.b .nil pass0 (pa_cons (pe_call Y.yV.ok (hr.mono (by decide)) rfl Y.yV.g Y.yV.k Y.yV.b .nil pass0 (pa_cons (pv 6) (pa_cons (pe_call Y.yP.ok (hr.mono (by decide)) rfl Y.yP.g Y.yP.k Y.yP.b .nil pass0 (pa_cons (pv 0) (pa_cons (pe_callTy call_list_of (by rfl) Y.list (by decide +kernel) (pa_cons (pe_call Y.y1.ok (hr.mono (by decide)) rfl Y.y1.g Y.y1.k Y.y1.b .nil pass0 (pa_cons (pv 6) pa_nil)) pa_nil)) (pa_cons (pv 2) pa_nil)))) pa_nil))) (pa_cons (pv 9) pa_nil))))) (pss_one (ps_ret pe_bl)) pss_nil)))))))
      (pss_one (ps_ret pe_bl))), ?_⟩
    obtain ⟨S, isS, fitS⟩ := fit_sum fitA fitB (by decide)
    obtain ⟨M, isM, fitM⟩ := fit_prod nm.nd fitA fitB (by decide)
    have vS := rv_sum (frac n d) nm.nd fitA.t fitB.t fitS.t isS
    have vM := rv_prod (frac n d) nm.nd fitA.t fitB.t fitM.t isM
    have fitS' : Fit ns 6 100 9 S := fitS.mono (by decide) (by decide) (by decide)
    have fitM' : Fit ns 6 100 9 M := fitM.mono (by decide) (by decide) (by decide)
    clear fitS fitM
    obtain ⟨nA, dA'⟩ := spot_bound nm fitA ks.b
    obtain ⟨nB, dB'⟩ := spot_bound nm fitB ks.b
    refine ⟨_, rfl, _, rfl, a, b, A, B, S, ns, 3, 3, 34, 34, false, false, rfl, ⟨polyB_of pA.kv, polyB_of pB.kv, nm.ok, fitA.t, fitB.t⟩, isS, fitS'.fits (by decide) (by decide), fun v1 G1 s1 k1 => ?_⟩
    have pA1 := PolyF.up pA (K1P.same_tups s1)
    have pB1 := PolyF.up pB (K1P.same_tups s1)
    refine ⟨by show 2 ≤ sizeLine; decide, fun t1 nt1 => ?_⟩
    have sa := s1.trans (same_new (o := .tup [.str "sum", .ref v1]) nt1)
    have h1 : upd G1 t1 (.tup [.str "sum", .ref v1]) t1 = some (.tup [.str "sum", .ref v1]) := upd_same
    have kS := KeyV.up (K1P.same_tups (same_new (o := .tup [.str "sum", .ref v1]) nt1)) _ _ k1
    have l6 := nm.l6
    generalize upd G1 t1 (.tup [.str "sum", .ref v1]) = Ga at sa h1 kS ⊢
    have pAa := PolyF.up pA (K1P.same_tups sa)
    have pBa := PolyF.up pB (K1P.same_tups sa)
    refine ⟨_, rfl, _, rfl, a, b, A, B, M, ns, 3, 3, 34, 34, 60, false, false, rfl, ⟨tb.ext sa, polyB_of pAa.kv, polyB_of pBa.kv, nm.ok, fitA.t, fitB.t, by decide, by decide, by decide, by omega, by decide, by decide, by decide⟩, isM, fitM'.fits (by decide) (by decide), fun v2 G2 x2 tb2 k2 => ?_⟩
    have m2 : Mv p H G2 := (Mv.same sa).trans (.ext x2)
    have f2 := (hf.same sa).ext x2
    have h1b := x2 _ _ h1 (fun ps z => nomatch z)
    have kS2 := keyV_ext x2 kS
    refine ⟨by show 2 ≤ sizeLine; decide, fun t2 nt2 => ⟨by show 2 ≤ sizeLine; decide, fun L nL => ?_⟩⟩
    have sc := same_new (o := .tup [.str "product", .ref v2]) nt2
    have h2 : upd G2 t2 (.tup [.str "product", .ref v2]) t2 = some (.tup [.str "product", .ref v2]) := upd_same
    have sd := sc.trans (same_new (o := .lst [.ref t1, .ref t2]) nL)
    have hL : upd (upd G2 t2 (.tup [.str "product", .ref v2])) L (.lst [.ref t1, .ref t2]) L = some (.lst [.ref t1, .ref t2]) := upd_same
    have h2b := same_new (o := .lst [.ref t1, .ref t2]) nL _ _ h2
    generalize upd (upd G2 t2 (.tup [.str "product", .ref v2])) L (.lst [.ref t1, .ref t2]) = G0 at sd hL h2b ⊢
    have h1c := sd _ _ h1b
    have kS0 := KeyV.up (K1P.same_tups sd) _ _ kS2
    have kM0 := KeyV.up (K1P.same_tups sd) _ _ k2
    have m0 : Mv p H G0 := m2.trans (.same sd)
    have tp0 := f2.same sd
    have tb0 := tb2.ext sd
    have pA0 := PolyF.up pA (m0.tups hf)
    have pB0 := PolyF.up pB (m0.tups hf)
    have ks0 := SpotD.mv ks m0 hf spp
    clear sa sc sd h1 h2 h1b kS kS2 m2 f2 k1 k2 pAa pBa pA1 pB1 s1 x2 tb2 nt1 nt2 nL
    refine ⟨L, rfl, ⟨_, SqL.of hL⟩, ?_⟩
    refine for_it (walk_list (K := K) (a := L) (xs := [.ref t1, .ref t2])) (fun i σ G => ∃ u5 u6 u7 u8 u9 : Option V, σ = [some (.ref p), some (.ref la), some (.ref sp), some (.ref a), some (.ref b), u5, u6, u7, u8, u9] ∧ Tabs (lamT Pt) G ∧ TapeL G p l ∧ Mv p G0 G)
      ⟨_, _, _, _, _, rfl, tb0, tp0, Mv.refl⟩ (fun i σ G _ ⟨_, _, _, _, _, _, _, _, m⟩ => SqL.of (m.lst tp0 hL)) (fun i x σ G G' hi ⟨u5, u6, u7, u8, u9, hσ, tbG, tpG, mG⟩ ⟨e', hv⟩ => ?_) (fun σ G ⟨u5, u6, u7, u8, u9, hσ, tbG, tpG, mG⟩ => ?_)
    · subst hσ e'
      obtain ⟨t, st, r, Rr, ex, ht, kR, fitR, vR⟩ : ∃ (t : Addr) (st : Str) (r : Addr) (Rr : Poly), x = .ref t ∧ G0 t = some (.tup [.str st, .ref r]) ∧ KeyV K G0 (polyK Rr) (.ref r) ∧ Fit ns 6 100 9 Rr ∧ rP (frac n d) Rr = if st = "sum" then rP (frac n d) A + rP (frac n d) B else rP (frac n d) A * rP (frac n d) B := by
        match i, hi with
        | 0, _ => cases hv; exact ⟨t1, _, v1, S, rfl, h1c, kS0, fitS', by rw [if_pos rfl]; exact vS⟩
        | 1, _ => cases hv; exact ⟨t2, _, v2, M, rfl, h2b, kM0, fitM', by rw [if_neg (by decide +kernel)]; exact vM⟩
      subst ex
      clear hv
      have tG := mG.tups (K := K) tp0
      have pAG := PolyF.up pA0 tG
      have pBG := PolyF.up pB0 tG
      have kRG := KeyV.up tG _ _ kR
      have ksG := SpotD.mv ks0 mG tp0 spp
      have rin : ∀ {G : Hp} {c : Addr} {C : Poly}, PolyF K G C c → SpotD G sp n d R ns → Fit ns 3 34 3 C → RecIn K G c sp C n d R ns ns 3 34 := fun p1 p2 p3 => ⟨p1, p2, p3.t, nm.ok, fun f hf => by
        obtain ⟨u, hu, hf⟩ := mem_facs.mp hf
        exact (p3.t.at_ u hu f hf).1, by omega, by decide, by decide⟩
      refine ⟨t, _, rfl, SqT.of (tG.t _ _ ht), rfl, _, _, rfl, _, _, rfl, rfl, ?_⟩
      refine ⟨_, rfl, _, rfl, a, sp, A, n, d, R, ns, ns, 3, 34, rfl, rin pAG ksG fitA, fun c1 H1 s1 e1 => ?_⟩
      have pBH := PolyF.up pBG (K1P.same_tups s1)
      have ksH := ksG.same s1
      refine ⟨_, rfl, _, rfl, b, sp, B, n, d, R, ns, ns, 3, 34, rfl, rin pBH ksH fitB, fun c2 H2 s2 e2 => ?_⟩
      have e1' := s2 _ _ e1
      generalize rP (frac n d) A = qa at nA dA' vR e1' ⊢
      generalize rP (frac n d) B = qb at nB dB' vR e2 ⊢
      have dnz : qa.den * qb.den ≠ 0 := Nat.mul_ne_zero qa.den_nz qb.den_nz
      have dlt : qa.den * qb.den < 2 ^ 8900 := Nat.lt_of_lt_of_le (Nat.mul_lt_mul'' dA' dB') (by rw [← Nat.pow_add]; exact Nat.pow_le_pow_right (by decide) (by decide))
      have zA : ((qa.den : Nat) : Int).natAbs < 2 ^ 1801 := by rw [Int.natAbs_natCast]; exact dA'
      have zB : ((qb.den : Nat) : Int).natAbs < 2 ^ 1801 := by rw [Int.natAbs_natCast]; exact dB'
      refine ⟨_, rfl, c1, _, _, _, rfl, rfl, SqT.of e1', atI_nat (j := 0) rfl, _, rfl, c2, _, _, _, rfl, rfl, SqT.of e2, atI_nat (j := 0) rfl, _, _, rfl, rfl, wide_mul nA nB (by decide) (by decide) (by decide), _, rfl, c1, _, _, _, rfl, rfl, SqT.of e1', atI_nat (j := 1) rfl, _, rfl, c2, _, _, _, rfl, rfl, SqT.of e2, atI_nat (j := 1) rfl, _, _, rfl, rfl, wide_mul zA zB (by decide) (by decide) (by decide), qa.num * qb.num, qa.den * qb.den, by rw [Int.natCast_mul]; rfl, dnz, dlt, fun c4 H4 s3 e4 => ?_⟩
      rw [mk_prod] at e4
      refine ⟨_, rfl, rfl, _, rfl, ite2 (fun hc => ?aa) (fun hc => ?bb)⟩
      case' aa =>
        have hs := V.str.inj (of_decide_eq_true hc)
        rw [if_pos hs] at vR
        have e1'' := s3 _ _ e1'
        have e2' := s3 _ _ e2
        refine ⟨_, rfl, c1, _, _, _, rfl, rfl, SqT.of e1'', atI_nat (j := 0) rfl, _, rfl, c2, _, _, _, rfl, rfl, SqT.of e2', atI_nat (j := 1) rfl, _, _, rfl, rfl, wide_mul nA zB (by decide) (by decide) (by decide), _, rfl, c2, _, _, _, rfl, rfl, SqT.of e2', atI_nat (j := 0) rfl, _, rfl, c1, _, _, _, rfl, rfl, SqT.of e1'', atI_nat (j := 1) rfl, _, _, rfl, rfl, wide_mul nB zA (by decide) (by decide) (by decide), _, _, rfl, rfl, _, rfl, c1, _, _, _, rfl, rfl, SqT.of e1'', atI_nat (j := 1) rfl, _, rfl, c2, _, _, _, rfl, rfl, SqT.of e2', atI_nat (j := 1) rfl, _, _, rfl, rfl, wide_mul zA zB (by decide) (by decide) (by decide), qa.num * qb.den + qb.num * qa.den, qa.den * qb.den, by rw [Int.natCast_mul]; rfl, dnz, dlt, fun c4 H4 s4' e4 => ?_⟩
        rw [mk_sum, ← vR] at e4
        have s4 := (s1.trans s2).trans (s3.trans s4')
        clear s4' e1'' e2' hs hc e2 s1 s2 s3
      case' bb =>
        have hs : ¬ st = "sum" := fun z => hc (decide_eq_true (by rw [z]))
        rw [if_neg hs] at vR
        rw [← vR] at e4
        have s4 := (s1.trans s2).trans s3
        clear hs hc e2 s1 s2 s3
      all_goals (
        have kR4 := KeyV.up (K1P.same_tups s4) _ _ kRG
        have ks4 := ksG.same s4
        have tp4 := tpG.same s4
        have tb4 := tbG.ext s4
        refine ⟨_, rfl, _, rfl, _, rfl, false, false, r, Rr, ns, rfl, polyB_of kR4, fun f hf => ?_, fitR.t.facs nm.ok, by omega, fun tv ys Gv sv ev up mem => ?_⟩
        · obtain ⟨u, hu, hf'⟩ := mem_facs.mp hf
          exact ⟨fitR.t.ok.ge f hf, (fitR.t.at_ u hu f hf').1⟩
        have ysn : ∀ y ∈ ys, y ∈ ns := fun y hy => by
          obtain ⟨f, hf, rfl⟩ := (mem y).mp hy
          obtain ⟨u, hu, hf'⟩ := mem_facs.mp hf
          exact (fitR.t.at_ u hu f hf').1
        have yl : ys.length ≤ 6 := Nat.le_trans (nodup_sub up.nd ysn) l6
        refine ⟨tv, _, rfl, .inr (SqT.of ev), fun lv nlv => ?_⟩
        have s5 := s4.trans (sv.trans (same_new (o := .lst (ys.map V.str)) nlv))
        have hlv : upd Gv lv (.lst (ys.map V.str)) lv = some (.lst (ys.map V.str)) := upd_same
        have e5 := same_new (o := .lst (ys.map V.str)) nlv _ _ (sv _ _ e4)
        generalize upd Gv lv (.lst (ys.map V.str)) = G5 at s5 hlv e5 ⊢
        have tp5 := tpG.same s5
        refine ⟨_, rfl, p, l, lv, sp, ys, ns, n, d, R, rfl, tp5, hlv, by omega, ksG.same s5, spp, ysn, fun c' pa xs Gp pm tpP bP kx => ?_⟩
        have tu := tp5.tups (K := K) bP
        have kRP := KeyV.up tu _ _ (KeyV.up (K1P.same_tups s5) _ _ kRG)
        have e6 := tu.t _ _ e5
        have tbP := tabs_but (tbG.ext s5) tp5 bP
        have xl : xs.length ≤ 6 := by rw [pm.length_eq]; exact yl
        refine ⟨false, false, c', r, pa, Rr, n, d, xs, ns, 6, 100, rfl, ⟨polyB_of kRP, kx, pm.nodup_iff.mpr up.nd, by omega, fun x hx => ks.b x (ysn x (pm.mem_iff.mp hx)), nm.ok, by omega, fitR.t, by omega, by decide, by decide⟩, fun f hf => pm.mem_iff.mpr ((mem f.1).mpr ⟨f, hf, rfl⟩), fun tr Gr sr er => ?_⟩
        refine ⟨_, rfl, _, _, rfl, alike_two er (sr _ _ e6), fun G7 s7 => ?_⟩
        refine ⟨true, rfl, ifN rfl ?_⟩
        exact ⟨_, _, _, _, _, rfl, (tbP.ext sr).ext s7, (tpP.same sr).same s7, mG.trans ((Mv.same s5).trans ((Mv.but bP).trans (.same (sr.trans s7))))⟩)
    · subst hσ
      exact go G tbG tpG (m0.trans mG)
end
end K5

set_option Elab.async false
set_option linter.all false
set_option maxRecDepth 100000
set_option maxHeartbeats 4000000
set_option autoImplicit false
set_option pp.maxSteps 600
/-! min of a list of texts while an exception is handled. Speaks of no program. -/
namespace HotX
open PySem PySem.Spec
open PyProof.Rows
section
variable {prog : Program} {w : World} {s : Shared} {A : Around} {E : Value → Shared → Prop}
theorem HotAt.keeps {x1 : Addr} {h h' : Heap} (t : HotAt A x1 h) (k : ∀ o, h.get? x1 = some o → h'.get? x1 = some o) : HotAt A x1 h' := by
  obtain ⟨hh, o, vs, h1, d1, c1⟩ := t
  exact ⟨hh, o, vs, k _ h1, d1, c1⟩
/-- a list's iterator that is used up, asked while the exception at x1 is handled -/
theorem used_up {I a x1 : Addr} {k : Nat} {vs : Array Value} {R : Option Value → Shared → Prop} (u : HotAt A x1 s.heap) (ux : x1 ≠ I) (pI : s.heap.IsListIter I a k) (pa : s.heap.IsList a vs) (out : vs[k]? = none)
    (fin : ∀ g, Heap.ExtBut I s.heap g → R none { s with heap := g }) : wpAny (model prog w) A (pyNext (.ref I)) R E s := by
  obtain ⟨oI, gI, cI, dI⟩ := id pI
  obtain ⟨oa, ga, _, na, da⟩ := pa
  obtain ⟨uh, oX, fX, gX, dX, cX⟩ := u
  unfold pyNext
  refine wpAny_bind (wpAny_attempt ?_)
  refine wpAny_callSpecial?_slot (name := Str.ofString "__next__") pI.typeIs slot_listiter_next ?_
  refine wpAny_call_entry slot_listiter_next pI.typeIs entry_listiter_next ?_ (args_listiter_next _)
  -- its list, its place
  (show wpAny _ _ (field (.ref I) 0 >>= _) _ _ s; refine wpAny_bind (wpAny_field gI dI (x := .ref a) rfl ?_))
  (show wpAny _ _ (if (Value.ref a == Value.none) = true then _ else _) _ _ s; rw [if_neg (show ¬ ((Value.ref a == Value.none) = true) from fun z => nomatch z)])
  (show wpAny _ _ (field (.ref I) 1 >>= _) _ _ s; refine wpAny_bind (wpAny_field gI dI (x := .int k 0) rfl ?_))
  (show wpAny _ _ (seqItems? (.ref a) >>= _) _ _ s; refine wpAny_bind (wpAny_seqItems ga da ?_))
  simp only [out, Int.toNat_natCast]
  -- it lets go of its list, and a StopIteration is made
  refine wpAny_bind (wpAny_rule (wpAny_bind (wpAny_setField gI dI (by simp) ?_)))
  (show wpAny _ _ (newExc (.type "StopIteration") [] >>= _) _ _ _; refine wpAny_bind ?_; simp only [newTuple, newExc]; refine wpAny_bind (wpAny_newObj_type ?_ (by size_fits)))
  refine wpAny_bind (m := firstArgMember _ _) (wpAny_of_eq (a := Value.none) (by first | (simp only [firstArgMember]; rfl) | rfl) (wpAny_newObj_type ?_ (by size_fits)))
  have still : ∀ b o, b ≠ I → s.heap.get? b = some o → (s.heap.update I (Obj.mapFields fun x => x.setIfInBounds 0 Value.none)).get? b = some o := fun b o nb e => (Heap.get?_update_other s.heap (a := I) (b := b) (Obj.mapFields fun x => x.setIfInBounds 0 Value.none) (Ne.symm nb)).trans e
  have gX2 := still _ _ ux gX
  refine raiseNew_hot ⟨uh, oX, fX, Heap.get?_push_of_some _ (Heap.get?_push_of_some _ gX2), dX, cX⟩ (Nat.ne_of_lt (Heap.lt_size (Heap.get?_push_of_some _ gX2))) (Heap.get?_push_size _ rfl) rfl (by first | (simp; done) | (simp; omega)) ?_
  refine wpAny_bind (wpAny_isInstance (b := true) (T := "StopIteration") ⟨_, Heap.get?_update_self _ (Heap.get?_push_size _ rfl) rfl, rfl⟩ isSubtype_stop (wpAny_pure (fin _ fun b o nb e => ?_)))
  have e2 := still b o nb e
  rw [Heap.get?_update_other _ _ (Nat.ne_of_gt (Heap.lt_size (Heap.get?_push_of_some _ e2)))]
  exact Heap.get?_push_of_some _ (Heap.get?_push_of_some _ e2)
theorem walks_hot (x1 I a : Addr) (ai : a ≠ I) (xi : x1 ≠ I) (vs : Array Value) : Walks prog w A I [I, a, x1] [I] vs.size (fun k v => vs[k]? = some v) (fun k h => h.IsListIter I a k ∧ h.IsList a vs ∧ HotAt A x1 h) := by
  have off : ∀ {b : Addr}, b ∉ [I] → b ≠ I := fun h e => h (by rw [e]; exact List.mem_cons_self)
  refine ⟨fun b hb => by rw [List.mem_singleton.mp hb]; exact List.mem_cons_self, fun k h h' st kp => ?_, fun k s R E lt st go => ?_, fun s R E st go => ?_, fun k s R E st go => wpAny_pyIter_listiter st.1 go⟩
  · exact ⟨st.1.at fun o e => kp I (by simp) o e, st.2.1.at fun o e => kp a (by simp) o e, st.2.2.keeps fun o e => kp x1 (by simp) o e⟩
  · refine wpAny_pyNext_list_item st.1 st.2.1 (x := vs[k]) (Array.getElem?_eq_getElem lt) fun g hit sb => ?_
    exact go _ g s.toks (Array.getElem?_eq_getElem lt) ⟨hit, st.2.1.extBut sb.extBut ai, st.2.2.keeps fun o e => sb.extBut x1 o xi e⟩ fun b o nb e => sb.extBut b o (off nb) e
  · exact used_up st.2.2 xi st.1 st.2.1 (by simp) fun g eb => go g s.toks fun b o nb e => eb b o (off nb) e
open PySem.W in
/-- min of a list of alike data, while an exception is handled -/
theorem min_hot {a x1 : Addr} {vs : Array Value} {d : PyData} {ds : List PyData} {as : List Addr} {R : Value → Shared → Prop} (u : HotAt A x1 s.heap) (pa : s.heap.IsList a vs) (rd : ReadsAll s.heap vs.toList (d :: ds) as) (al : AlikeAll (d :: ds)) (room : A.units + 1 + PyData.depthAll (d :: ds) < cLine)
    (go : ∀ (k : Nat) (v : Value) (g : Heap) (tk : Tok) (bs : List Addr), vs[k]? = some v → Reads g v (minD d ds) bs → (∀ b o, s.heap.get? b = some o → g.get? b = some o) → R v { s with heap := g, toks := tk }) : wpAny (model prog w) A (call (.builtin "min") [.ref a]) R E s := by
  have size : vs.size = ds.length + 1 := readsAll_len rd
  obtain ⟨uh, oX, fX, gX, dX, cX⟩ := u
  have below : ∀ b ∈ [s.heap.objs.size, a, x1], b < s.heap.objs.size + 1 := fun b hb => by
    have la : a < s.heap.objs.size := let ⟨_, e, _⟩ := pa; Heap.lt_size e
    have lx : x1 < s.heap.objs.size := Heap.lt_size gX
    rcases List.mem_cons.mp hb with e | t
    · rw [e]; exact Nat.lt_succ_self _
    · rcases List.mem_cons.mp t with e | t
      · rw [e]; exact Nat.lt_succ_of_lt la
      · rw [List.mem_singleton.mp t]; exact Nat.lt_succ_of_lt lx
  have la : a ≠ s.heap.objs.size := Nat.ne_of_lt (let ⟨_, e, _⟩ := pa; Heap.lt_size e)
  refine call_min_walkH (wpAny_pyIter_list pa ?_)
  refine ⟨_, _, _, _, _, _, _, s.heap, _, rfl, (walks_hot (A := A.in1) x1 s.heap.objs.size a la (Nat.ne_of_lt (Heap.lt_size gX)) vs).toS, ⟨⟨_, Heap.get?_push_size _ rfl, rfl, rfl⟩, pa.push _, uh, oX, fX, Heap.get?_push_of_some _ gX, dX, cX⟩,
    fun b hb => (by show b < (Heap.push _ _).objs.size; rw [Heap.size_push]; exact below b hb), by omega, fun b o e hb => ?_, fun b o e => Heap.get?_push_of_some _ e, cmpIn_lt (A := A.in1) rd al room, fun v s' pv mv => ?_⟩
  · have := Heap.lt_size e
    rw [List.mem_singleton.mp hb] at this
    exact Nat.lt_irrefl _ this
  · obtain ⟨g, tk, rfl, kp⟩ := moved_old (s := s) rfl rfl mv
    obtain ⟨bs, rv, _⟩ := readsAll_atA rd _ v pv
    have best := (argBest_fold dataLt PyData.none d ds ds.length (Nat.le_refl _)).2
    rw [List.take_length] at best
    rw [show vs.size - 1 = ds.length by omega] at rv
    have rm : Reads s.heap v (minD d ds) bs := by
      unfold minD
      rw [← best]
      exact rv
    exact go _ v g tk bs pv (reads_keeps kp rm) kp
end
end HotX

namespace K5
open PySem PySem.Spec PyProof.Rows L2
open PySem.W
/-- the less of two texts -/
def lessS (x y : Str) : Str := if decide (y.cps.toList < x.cps.toList) = true then y else x
theorem suite_hot {X : Cx} {a : Addr} {oe : Obj} {cls : Value} {d : Option Addr} {pn : List (Addr × Obj)} (hz : L2N.Zn cls d oe) (hf : ∃ vs, oe.data = .fields vs) : L2H.HotC (X.suite a ((a, oe) :: pn)) := by
  obtain ⟨vs, e⟩ := hf
  exact ⟨(a, oe), ⟨rfl, vs, e, hz.2.2 vs e⟩, List.mem_cons_self⟩
def rMinS (K : PySem.W.Frag) : List V → Hp → VK → Prop := fun xs H Q => ∃ (a : Addr) (x y : Str), xs = [V.ref a] ∧ SqL K H a [.str x, .str y] ∧ Q (.str (lessS x y)) H
theorem call_minH {X : Cx} (hc : L2H.HotC X) (hu : X.A.units + 9 < cLine) : CallR X (.builtin "min") (rMinS X.K) := by
  intro pins s σ H vs us Q I r h
  obtain ⟨a, x, y, rfl, hs, q⟩ := h
  obtain ⟨its, rv, hl, _⟩ := I.list hs
  obtain ⟨x1, hot⟩ := hc.at I
  rw [Vals.ref1 r]
  cases rv with
  | cons r1 r2 =>
    cases r2 with
    | cons r2 r3 =>
      cases r3
      obtain ⟨t1, rfl⟩ := r1
      obtain ⟨t2, rfl⟩ := r2
      have rs : ReadsAll s.heap [Value.str x t1, Value.str y t2] (([x, y] : List Str).map Datum.toD) [] := .cons (as := []) (.str x t1) (.cons (as := []) (.str y t2) .nil)
      refine HotX.min_hot hot hl.isList rs (alikeAll_datum [x, y]) ?_ fun i v h' tk bs hi r hk => ?_
      · have h1 := depthAll_map (α := Str) [x, y]
        have h2 : Datum.depth Str ≤ 7 := by decide
        show X.A.units + 1 + PyData.depthAll (([x, y] : List Str).map Datum.toD) < cLine
        omega
      · have e : minD (Datum.toD x) (([y] : List Str).map Datum.toD) = Datum.toD (minOf x [y]) := minD_map x [y]
        have r' : Reads h' v (.str (lessS x y)) bs := by
          have := e ▸ r
          exact this
        cases r' with
        | str _ t => exact ⟨.str (lessS x y), H, I.kept hk, ⟨t, rfl⟩, q⟩
end K5

set_option Elab.async false
set_option linter.all false
set_option maxRecDepth 100000
set_option maxHeartbeats 4000000
set_option autoImplicit false
set_option pp.maxSteps 600
/-! The law's own comparison within an except suite: of what is no tuple and no list. -/
namespace K3
open PySem L2 K1D K2P
section
variable {P : Program} {w : World} {K : PySem.W.Frag} {mg : Str → Option Value} {base : Heap} {fS : Addr}
theorem ok_sameH {fd : FuncData} (F : Fun K "_law_same" "_law_same" sSame fS fd) (T : SameTxt K mg fS) : L2H.FnH P w K mg base CX0 1 fS fd ["actual", "due"] (spSame 0) := by
  obtain ⟨oc, od, kV, doc, pm, an, cdv, ct, osl, rfl, lk, hcd⟩ := F.ex
  refine L2H.fn_ofH lk hcd scS (fun vs H Q E h => ?_) fun A outer s H vs Q E p hot hr h => ?_
  · obtain ⟨x, y, rfl, _⟩ := h
    rfl
  · obtain ⟨x, y, rfl, al, go⟩ := h
    have nt : ∀ p, y ≠ .ref p := fun p z => by
      subst z
      cases al
    refine ⟨_, pss_cons (ps_if (PW.pt (pw_or (pt_val (pe_callB call_isi (by rfl) T.isinst (by decide +kernel) (pa_cons (pv 1) (pa_cons (pe_bltn (v := .ty "tuple") (u := .type "tuple") (by rfl) T.tuple (by decide +kernel) (by exact rfl)) pa_nil)))) (pw_or1 (pt_val (pe_callB call_isi (by rfl) T.isinst (by decide +kernel) (pa_cons (pv 1) (pa_cons (pe_bltn (v := .ty "list") (u := .type "list") (by rfl) T.list (by decide +kernel) (by exact rfl)) pa_nil))))))) pss_never pss_nil)
      (pss_cons (ps_if (pt_cmpR op_isN (pv 1) pe_non (nomark _)) (pss_one (ps_ret (pe_cmpR op_isN (pv 0) pe_non (nomark _)))) pss_nil)
      (pss_cons (ps_if (pt_val (pe_callB call_isi (by rfl) T.isinst (by decide +kernel) (pa_cons (pv 1) (pa_cons (pe_bltn (v := .ty "bool") (u := .type "bool") (by rfl) T.bool (by decide +kernel) (by exact rfl)) pa_nil)))) (pss_one (ps_ret (pe_and (pe_callB call_isi (by rfl) T.isinst (by decide +kernel) (pa_cons (pv 0) (pa_cons (pe_bltn (v := .ty "bool") (u := .type "bool") (by rfl) T.bool (by decide +kernel) (by exact rfl)) pa_nil))) (pe_one (pe_cmpR op_eq (pv 0) (pv 1) (nomark _)))))) pss_nil)
      (pss_cons (ps_if (pt_val (pe_callB call_isi (by rfl) T.isinst (by decide +kernel) (pa_cons (pv 1) (pa_cons (pe_bltn (v := .ty "str") (u := .type "str") (by rfl) T.str (by decide +kernel) (by exact rfl)) pa_nil)))) (pss_one (ps_ret (pe_and (pe_callB call_isi (by rfl) T.isinst (by decide +kernel) (pa_cons (pv 0) (pa_cons (pe_bltn (v := .ty "str") (u := .type "str") (by rfl) T.str (by decide +kernel) (by exact rfl)) pa_nil))) (pe_one (pe_cmpR op_eq (pv 0) (pv 1) (nomark _)))))) pss_nil)
      (pss_one (ps_ret (pe_and (pe_callB call_isi (by rfl) T.isinst (by decide +kernel) (pa_cons (pv 0) (pa_cons (pe_bltn (v := .ty "int") (u := .type "int") (by rfl) T.int (by decide +kernel) (by exact rfl)) pa_nil))) (pe_and (pe_not (pe_callB call_isi (by rfl) T.isinst (by decide +kernel) (pa_cons (pv 0) (pa_cons (pe_bltn (v := .ty "bool") (u := .type "bool") (by rfl) T.bool (by decide +kernel) (by exact rfl)) pa_nil)))) (pe_one (pe_cmpR op_eq (pv 0) (pv 1) (nomark _)))))))))), ?_⟩
    obtain ⟨a, ty, k1, k2⟩ := al.ty (K := K) nt
    refine isi (K := K) rfl ty k1 ⟨_, rfl, ifN rfl ?_⟩
    refine isi (K := K) rfl ty k2 ⟨_, rfl, ifN rfl ?_⟩
    show tTail K _ _ H
    exact leaf (K := K) al rfl rfl nt (go H (Same.refl H))
end
end K3

set_option Elab.async false
set_option linter.all false
set_option maxRecDepth 100000
set_option maxHeartbeats 8000000
set_option autoImplicit false
set_option pp.maxSteps 600
set_option exponentiation.threshold 1000
/-! A name that lacks. -/
namespace K5
open PySem L2 K1D K2P K3
open K1P (Raises)
abbrev sLack : Stmt := K2P.top 48
theorem takes0N {X : Cx} : L2N.Takes X (fun _ _ _ _ => False) := fun _ _ ⟨_, _, _, _, _, _, _, _, _, _, _, _, _, _, _, _, z⟩ => z.elim
def spLack (K : PySem.W.Frag) : Sp := fun vs H Q _ => ∃ (p l a na sp : Addr) (ns ys L : List Str) (e : Nat) (A : Poly) (n d : Str → Int) (R : List (Str × Addr)), vs = [.ref p, .ref a, .ref na, .ref sp] ∧ TapeL H p l ∧ PolyF K H A a ∧ H na = some (.lst (ys.map V.str)) ∧ ys ≠ [] ∧ (∀ x, x ∈ ys ↔ ∃ f ∈ facs A, f.1 = x) ∧ ys.length ≤ 60 ∧
  SpotD H sp n d R ns ∧ sp ≠ p ∧ NamesL ns ∧ DrawnP ns A L e ∧ ∀ G : Hp, TapeL G p l → But p H G → Q (.bl true) G
structure LackTxt (P : Program) (w : World) (K : PySem.W.Frag) (mg : Str → Option Value) (base : Heap) (C M fV fP fS : Addr) (dV dP dS : FuncData) : Prop where
  isinst : mg "isinstance" = none
  min : mg "min" = none
  bV : CallT P w K mg base (L2N.CX P w) 3 "value" ["p", "pairs"] (spValB K C) fV dV
  yP : CallT P w K mg base CX0 3 "_law_pairs" ["tape", "names", "spot"] (spPairs K) fP dP
  yS : L2H.FnH P w K mg base CX0 1 fS dS ["actual", "due"] (spSame 0)
  gS : mg "_law_same" = some (.ref fS)
  kS : PySem.W.keepIn K (.ref fS) = true
  bS : Binds K dS ["actual", "due"] []
  gM : mg "TooMany" = some (.ref M)
  kitM : PySem.W.kitOne K (.ref C) (.ref M) = some false
section
variable {P : Program} {w : World} {K : PySem.W.Frag} {mg : Str → Option Value} {base : Heap} {B C M fI fD fV fP fS : Addr} {dI dD dV dP dS : FuncData}
theorem scLack : FnScope ["tape", "poly", "names", "spot", "gone", "pairs", "error", "name"] ["tape", "poly", "names", "spot"] (defScope sLack) := ⟨rfl, rfl, rfl, by decide +kernel, rfl, by decide +kernel, by decide +kernel⟩
theorem ok_lack {f : Addr} {fd : FuncData} (F : Fun K "_law_lacking_right" "_law_lacking_right" sLack f fd) (Z : DrawTxt P w K mg base fD dD) (U : ThereTxt P w K mg base B C fI dI) (T : LackTxt P w K mg base C M fV fP fS dV dP dS) : FnOk P w K mg base CX0 4 f fd ["tape", "poly", "names", "spot"] (spLack K) := by
  refine F.ok scLack (fun vs H Q E h => ?_) (fun cdv Ar outer s H vs Q E hr h => ?_)
  · obtain ⟨p, l, a, na, sp, ns, ys, L, e, A, n, d, R, rfl, _⟩ := h
    rfl
  · obtain ⟨p, l, a, na, sp, ns, ys, L, e, A, n, d, R, rfl, hf, pA, hna, y0, mem, y60, ks, spp, nm, dr, go⟩ := h
    have h1 : Room 1 _ := hr.mono (by decide)
    refine ⟨_, (pss_cons (ps_set (i := 4) scLack.nd rfl (Or.inr rfl) (pe_lst (pa_cons (pe_ix ix_list (pv 2) (pe_call Z.d.ok (hr.mono (by decide)) rfl Z.d.g Z.d.k Z.d.b .nil pass0 (pa_cons (pv 0) (pa_cons (pe_callB call_len_seq (by rfl) Z.len PySem.boot_len (pa_cons (pv 2) pa_nil)) pa_nil))) (fun _ _ => rfl)) (pa_cons (pe_ix ix_list (pv 2) (pe_call Z.d.ok (hr.mono (by decide)) rfl Z.d.g Z.d.k Z.d.b .nil pass0 (pa_cons (pv 0) (pa_cons (pe_callB call_len_seq (by rfl) Z.len PySem.boot_len (pa_cons (pv 2) pa_nil)) pa_nil))) (fun _ _ => rfl)) pa_nil))))
      (pss_cons (ps_set (i := 5) scLack.nd rfl (Or.inl rfl) (pe_call T.yP.ok (hr.mono (by decide)) rfl T.yP.g T.yP.k T.yP.b .nil pass0 (pa_cons (pv 0) (pa_cons (pe_lock (pe_lc (own := [("name", 7)]) (g := (gName 7)) (tt := (tTest (tOp (rIn K true) (tVar 7) (tVar 4)))) (te := (tVar 7)) rfl scLack.nd (pi_keys (pv 3)) (blkOk_by (own := [("name", 7)]) (N := ["tape", "poly", "names", "spot", "gone", "pairs", "error", "name"]) (sc := defScope sLack) (by decide +kernel)) (fun _ _ _ _ _ => (pg_name (i := 7) scLack.nd rfl (Or.inl rfl))) (fun _ _ _ _ _ => (pts_one (pt_cmpR op_notIn_seq (pv 7) (pv 4) (by rfl)))) (fun _ _ _ _ _ => (pv 7)))) (pa_cons (pv 3) pa_nil)))))
      (pss_cons (L2N.ps_try_as (i := 6) (ts := fun a cls d => tSeq (tIfS (tOr (tNot (tB (tCB (rErrIs K cls a d) (tCons (tVar 6) (tCons (tC (.ref B)) tNil))))) (tB (tCB (rErrIs K cls a d) (tCons (tVar 6) (tCons (tC (.ref M)) tNil))))) (tRet (tC (.bl false))) tNext) (tRet (tCallS (spSame 0) (fun _ => E0) (tCons (tXf a cls d C "word" (tVar 6)) (tCons (tCB (rMinS K) (tCons (tVar 4) tNil)) tNil)))))
      (tb := fun W => tDrop (tCallS (spValB K C) (WE W) (tCons (tVar 1) (tCons (tVar 5) tNil))))
      rfl rfl scLack.nd rfl rfl ⟨rfl, by decide, .inl U.gC⟩ takes0N
      (fun W pn xe tk _ => pss_one (ps_expr (by exact (pe_callS T.bV.ok hr rfl T.bV.g T.bV.k T.bV.b (fun σ => L2N.passAt tk σ) (by exact (pa_cons (pv 1) (pa_cons (pv 5) pa_nil)))))))
      (fun a oe cls d pn hz hf => pss_cons (ps_if (by exact (PW.pt (pw_or (pt_not (pt_val (pe_callB (call_errIs hz.zc hf) (by rfl) T.isinst (by decide +kernel) (pa_cons (pv 6) (pa_cons (pe_glob (by rfl) U.gB (v := .ref B) (by exact rfl)) pa_nil))))) (pw_or1 (pt_val (pe_callB (call_errIs hz.zc hf) (by rfl) T.isinst (by decide +kernel) (pa_cons (pv 6) (pa_cons (pe_glob (by rfl) T.gM (v := .ref M) (by exact rfl)) pa_nil)))))))) (pss_one (ps_ret (by exact pe_bl))) pss_nil)
        (pss_one (ps_ret (by exact (L2H.pe_callH T.yS ⟨h1.dp, h1.un⟩ (suite_hot hz hf) (by rfl) T.gS T.kS T.bS (fun _ _ _ _ _ _ _ h => h.elim) (pa_cons (pe_xf U.xf U.no hz.zc hf (pv 6)) (pa_cons (pe_callB (show CallR _ (.builtin "min") (rMinS K) from call_minH (suite_hot hz hf) (by have h := hr.units; exact Nat.lt_of_le_of_lt (Nat.add_le_add_left (by decide : 9 ≤ 64) _) h)) (by rfl) T.min (by decide +kernel) (pa_cons (pv 4) pa_nil)) pa_nil))))))))
      (pss_one (ps_ret pe_bl))))), ?_⟩
    have nap := hf.lst hna
    have yl : 0 < ys.length := List.length_pos_iff.mpr y0
    have bl : (((ys.map V.str).length : Nat) : Int).natAbs < 2 ^ 8000 := by
      rw [List.length_map]
      exact b8000 (n := 10) (by omega) (by decide)
    refine ⟨_, rfl, _, rfl, _, rfl, na, _, rfl, .inl (SqL.of hna), p, l, _, rfl, hf, bl, fun z1 G1 z10 z11 f1 b1 => ?_⟩
    rw [List.length_map] at z11
    obtain ⟨k1, rfl⟩ : ∃ k : Nat, z1 = k := ⟨z1.toNat, by omega⟩
    obtain ⟨g1, hg1⟩ : ∃ y, ys[k1]? = some y := ⟨ys[k1]'(by omega), List.getElem?_eq_getElem (by omega)⟩
    have hna1 := b1 _ _ nap hna
    refine ⟨na, _, _, _, rfl, rfl, SqL.of hna1, atI_nat (j := k1) (by rw [List.getElem?_map, hg1]; rfl), ?_⟩
    refine ⟨_, rfl, _, rfl, _, rfl, na, _, rfl, .inl (SqL.of hna1), p, l, _, rfl, f1, bl, fun z2 G2 z20 z21 f2 b2 => ?_⟩
    rw [List.length_map] at z21
    obtain ⟨k2, rfl⟩ : ∃ k : Nat, z2 = k := ⟨z2.toNat, by omega⟩
    obtain ⟨g2, hg2⟩ : ∃ y, ys[k2]? = some y := ⟨ys[k2]'(by omega), List.getElem?_eq_getElem (by omega)⟩
    have hna2 := b2 _ _ nap hna1
    refine ⟨na, _, _, _, rfl, rfl, SqL.of hna2, atI_nat (j := k2) (by rw [List.getElem?_map, hg2]; rfl), by show 2 ≤ sizeLine; decide, fun gl ngl => ?_⟩
    have b12 := b1.trans b2
    have f3 := f2.up (o := .lst [.str g1, .str g2]) ngl
    have b3 : But p H (upd G2 gl (.lst [.str g1, .str g2])) := b12.trans (But.new ngl)
    have hgl : upd G2 gl (.lst [.str g1, .str g2]) gl = some (.lst [.str g1, .str g2]) := upd_same
    generalize upd G2 gl (.lst [.str g1, .str g2]) = G3 at f3 b3 hgl ⊢
    have ks3 := SpotD.but ks b3 hf spp
    have m1 := (mem g1).mp (List.mem_of_getElem? hg1)
    have m2 := (mem g2).mp (List.mem_of_getElem? hg2)
    have spgl : sp ≠ gl := fun z => by have := ks3.at_; rw [z, hgl] at this; cases this
    have glp := f3.lst hgl
    refine ⟨_, rfl, sp, _, ks3.at_, True.intro, fun od => ?_⟩
    refine ⟨_, rfl, sp, od, rfl, .inl ⟨_, upd_same, fun D nD => ?_⟩⟩
    have Dsp : D ≠ sp := fun z => by rw [z, upd_same] at nD; cases nD
    have hglL : upd G3 sp (.frz od (.dK (dR R))) gl = some (.lst [.str g1, .str g2]) := (upd_ne (Ne.symm spgl)).trans hgl
    have nD3 : G3 D = none := by rw [upd_ne Dsp] at nD; exact nD
    have lk : upd G3 sp (.frz od (.dK (dR R))) sp = some (.frz od (.dK (dR R))) := upd_same
    refine lc_it (walk_keys (d := sp) (o := od) (kvs := dR R)) (fun (j : Nat) (F : Hp) => Same (upd G3 sp (.frz od (.dK (dR R)))) F ∧ F D = some (.lst (((ns.take j).filter fun x => !decide (x ∈ [g1, g2])).map V.str))) ⟨same_new nD, upd_same⟩
      (fun j F _ ⟨sf, _⟩ => sf _ _ lk) (fun j x F0 F hj ⟨sf, hD⟩ ⟨e0, k, v, hkv, hx⟩ => ?_) (fun F ⟨sf, hD⟩ => ?_)
    · subst e0 hx
      have l6 := nm.l6
      obtain ⟨xr, hxr, exr⟩ : ∃ xr, R[j]? = some xr ∧ kV k = .str xr.1 := by
        unfold dR at hkv
        rw [List.getElem?_map] at hkv
        obtain ⟨xr, h1, h2⟩ := Option.map_eq_some_iff.mp hkv
        exact ⟨xr, h1, by rw [← (Prod.mk.inj h2).1]; rfl⟩
      rw [exr]
      have hy : ns[j]? = some xr.1 := by rw [← ks.ks, List.getElem?_map, hxr]; rfl
      have hglF : F gl = some (.lst ([g1, g2].map V.str)) := sf _ _ hglL
      refine ⟨rfl, _, rfl, _, rfl, gl, _, rfl, .inl (SqL.of hglF), rfl, rfl, _, rfl, ?_⟩
      rw [in_strs]
      have lt : ((ns.take j).filter fun x => !decide (x ∈ [g1, g2])).length ≤ 6 := by
        refine Nat.le_trans (List.length_filter_le ..) ?_
        rw [List.length_take]
        omega
      have en : (ns.take (j + 1)).filter (fun x => !decide (x ∈ [g1, g2])) = (ns.take j).filter (fun x => !decide (x ∈ [g1, g2])) ++ (if xr.1 ∈ [g1, g2] then [] else [xr.1]) := by
        rw [take_snoc hy, List.filter_append]
        congr 1
        by_cases z : xr.1 ∈ [g1, g2]
        · rw [if_pos z, List.filter_cons, if_neg (by rw [decide_eq_true z]; exact Bool.false_ne_true)]
          rfl
        · rw [if_neg z, List.filter_cons, if_pos (by rw [decide_eq_false z]; rfl)]
          rfl
      by_cases z : xr.1 ∈ [g1, g2]
      · refine ifN (by rw [decide_eq_true z]; rfl) ⟨sf, ?_⟩
        rw [en, if_pos z, List.append_nil]
        exact hD
      · refine ifY (by rw [decide_eq_false z]; rfl) ⟨_, rfl, _, hD, by rw [List.length_map, sizeLine_eq]; omega, fun b ob hb => (upd_ne fun w => by rw [w, nD] at hb; cases hb).trans (sf _ _ hb), ?_⟩
        rw [upd_same, en, if_neg z, List.map_append]
        rfl
    · have ln : (dR R).length = ns.length := by rw [len_dR, ← ks.ks, List.length_map]
      rw [ln, List.take_length] at hD
      have l6 := nm.l6
      refine ⟨sf _ _ lk, ?_⟩
      have s4 : Same G3 (upd F sp (.dK (dR R))) := fun b ob hb => by
        by_cases q : b = sp
        · rw [q, ks3.at_] at hb
          rw [q, upd_same]
          exact hb
        · exact (upd_ne q).trans (sf _ _ ((upd_ne q).trans hb))
      have hD4 : upd F sp (.dK (dR R)) D = some (.lst ((ns.filter fun x => !decide (x ∈ [g1, g2])).map V.str)) := (upd_ne Dsp).trans hD
      generalize upd F sp (.dK (dR R)) = G4 at s4 hD4 ⊢
      have f4 := f3.same s4
      have b4 := b3.trans (But.same s4)
      have fm : ∀ y, y ∈ ns.filter (fun x => !decide (x ∈ [g1, g2])) ↔ y ∈ ns ∧ y ∉ [g1, g2] := fun y => by
        rw [List.mem_filter]
        exact ⟨fun q => ⟨q.1, fun z => by have := q.2; rw [decide_eq_true z] at this; exact Bool.false_ne_true this⟩, fun q => ⟨q.1, by rw [decide_eq_false q.2]; rfl⟩⟩
      have fl : (ns.filter fun x => !decide (x ∈ [g1, g2])).length ≤ 6 := Nat.le_trans (List.length_filter_le ..) l6
      refine ⟨_, rfl, p, l, D, sp, _, ns, n, d, R, rfl, f4, hD4, by omega, ks3.same s4, spp, fun y hy => ((fm y).mp hy).1, fun c pa xs Gp pm tpP bP kx => ?_⟩
      have bA := b4.trans bP
      have pAP := PolyF.up pA (hf.tups bA)
      have hglP := bP _ _ glp (s4 _ _ hgl)
      have xm : ∀ y, y ∈ xs ↔ y ∈ ns ∧ y ∉ [g1, g2] := fun y => (pm.mem_iff).trans (fm y)
      have Lsub := nodup_sub dr.nd dr.sub
      have zc : lessS g1 g2 = g1 ∨ lessS g1 g2 = g2 := by
        unfold lessS
        split
        · exact .inr rfl
        · exact .inl rfl
      have facN : ∀ f ∈ facs A, f.1 ∈ ns := fun f hf => by
        obtain ⟨u, hu, hf'⟩ := mem_facs.mp hf
        exact dr.sub _ (dr.tp.at_ u hu f hf').1
      have zin : lessS g1 g2 ∈ ns := by
        obtain ⟨q1, h1, e1⟩ := m1
        obtain ⟨q2, h2, e2⟩ := m2
        rcases zc with z | z
        · rw [z, ← e1]; exact facN q1 h1
        · rw [z, ← e2]; exact facN q2 h2
      have zlen : (lessS g1 g2).length ≤ 1000 := by
        have := (nm.nm _ zin).1
        omega
      have lack : Lacks A xs (lessS g1 g2) := by
        refine ⟨?_, fun z => ?_, fun f hf nx => ?_⟩
        · rcases zc with z | z
          · rw [z]; exact m1
          · rw [z]; exact m2
        · have := ((xm _).mp z).2
          rcases zc with q | q
          · rw [q] at this; simp at this
          · rw [q] at this; simp at this
        · have fin : f.1 ∈ [g1, g2] := Classical.byContradiction fun q => nx ((xm _).mpr ⟨facN f hf, q⟩)
          unfold lessS
          rcases List.mem_cons.mp fin with q | q
          · rw [q]
            split
            · rename_i hc
              exact fun z => List.lt_irrefl _ (List.lt_trans z (of_decide_eq_true hc))
            · exact List.lt_irrefl _
          · rw [List.mem_singleton.mp q]
            split
            · exact List.lt_irrefl _
            · rename_i hc
              exact fun z => hc (decide_eq_true z)
      have fx : (xs.length ≤ 6) := by rw [pm.length_eq]; exact fl
      have nmL : NamesOk L := ⟨by omega, fun x hx => by have := (nm.nm x (dr.sub x hx)).1; rw [sizeLine_eq]; omega⟩
      refine ⟨_, rfl, _, rfl, false, false, c, a, pa, A, n, d, xs, L, e, 134, lessS g1 g2, rfl, ⟨polyB_of pAP.kv, kx, pm.nodup_iff.mpr (List.Pairwise.filter _ ks.nd), by omega, fun x hx => ks.b x ((xm x).mp hx).1, nmL, by omega, dr.tp, dr.le, dr.e80, by decide⟩, lack, zlen, fun G dd sG nd => ⟨true, U.exm, fun _ x nx => ?_, fun z => (nomatch z)⟩⟩
      have tpG := tpP.same sG
      have bG := bA.trans (But.same sG)
      have hglG := sG _ _ hglP
      have s5 : Same G (upd G dd (.xd [("word", .str (lessS g1 g2))])) := same_new nd
      refine ⟨_, rfl, C, .ref B, .ref B, true, rfl, U.ask, rfl, .own _, fun d' e => by cases e; exact ⟨_, upd_same⟩, U.kit, true, rfl, ?_⟩
      refine ifN rfl ⟨_, rfl, C, .ref M, .ref M, false, rfl, U.ask, rfl, .own _, fun d' e => by cases e; exact ⟨_, upd_same⟩, T.kitM, false, rfl, ifN rfl ?_⟩
      exact ⟨_, rfl, rfl, rfl, dd, _, .str (lessS g1 g2), rfl, upd_same, rfl, _, rfl, gl, g1, g2, rfl, SqL.of (s5 _ _ hglG), _, _, rfl, .str 0 _, fun G' s' => go G' ((tpG.same s5).same s') ((bG.trans (But.same s5)).trans (But.same s'))⟩
end
end K5

set_option Elab.async false
set_option linter.all false
set_option maxRecDepth 100000
set_option maxHeartbeats 16000000
set_option autoImplicit false
set_option pp.maxSteps 600
set_option exponentiation.threshold 1000
/-! The law of k05. -/
namespace K5
open PySem L2 K1D K2P K3
open LamX (Tabs ExtN TabB)
open K1P (pe_callN0)
abbrev sLaw : Stmt := K2P.top 51
def spLaw (K : PySem.W.Frag) (Pt : Addr) : Sp := fun vs H Q _ => ∃ (a : Addr) (ns : List Int), vs = [.ref a] ∧ SqL K H a (ns.map V.int) ∧ Tabs (lamT Pt) H ∧ ∀ G, Q (.bl true) G
structure LawTxt (P : Program) (w : World) (K : PySem.W.Frag) (mg : Str → Option Value) (base : Heap) (Pt ft fs fB fY fW fD fF fN fR fS fV fH fP fK fT : Addr) (dt ds dB dY dW dD dF dN dR dS dV dH dP dK dT : FuncData) : Prop where
  yt : CallT P w K mg base CX0 1 "_law_tape" ["script"] (spTape K) ft dt
  ys : CallT P w K mg base CX0 3 "_law_signs" ["tape"] spSigns fs ds
  yB : CallT P w K mg base CX0 4 "_law_table" ["tape", "signs", "terms", "height", "great"] (spTable K w) fB dB
  yY : CallT P w K mg base CX0 1 "_law_poly" ["table"] (spPolyT K w) fY dY
  yW : CallT P w K mg base CX0 3 "_law_factor" ["tape", "great"] spFactor fW dW
  yD : CallT P w K mg base CX0 5 "_law_drawn" ["tape", "signs"] (spDrawn K) fD dD
  yF : CallT P w K mg base CX0 3 "_law_fraction" ["tape"] spFrac fF dF
  yN : CallT P w K mg base CX0 1 "_law_names" ["poly"] (spNamesP K) fN dN
  yR : CallT P w K mg base CX0 3 "_law_reckoned" ["poly", "spot"] (spReck K) fR dR
  yS : CallT P w K mg base CX0 2 "_law_same" ["actual", "due"] (spSame 1) fS dS
  yV : CallT P w K mg base CX0 2 "value" ["p", "pairs"] (spVal K) fV dV
  nV : KBn K dV ["p", "pairs"] 0 ["pairs", "p"] (fun _ ws => ws.reverse) (fun _ zs => zs.reverse)
  yH : CallT P w K mg base CX0 3 "_law_handed" ["tape", "poly"] (spHand K) fH dH
  yP : CallT P w K mg base CX0 3 "_law_pairs" ["tape", "names", "spot"] (spPairs K) fP dP
  yK : CallT P w K mg base CX0 4 "_law_lacking_right" ["tape", "poly", "names", "spot"] (spLack K) fK dK
  yT : CallT P w K mg base CX0 6 "_law_two_right" ["tape", "signs", "spot", "one", "two"] (spTwo K Pt) fT dT
/-- what stands in a turn -/
structure LawE (K : PySem.W.Frag) (Pt p l : Addr) (G0 : Hp) (sp x na du : Addr) (A : Poly) (n d : Str → Int) (R : List (Str × Addr)) (ns ys : List Str) (G : Hp) : Prop where
  mv : Mv p G0 G
  tb : Tabs (lamT Pt) G
  tp : TapeL G p l
  pA : PolyF K G A x
  ks : SpotD G sp n d R ns
  hn : G na = some (.lst (ys.map V.str))
  hd : G du = some (.tup [.int (rP (frac n d) A).num, .int (rP (frac n d) A).den])
theorem LawE.but {K : PySem.W.Frag} {Pt p l : Addr} {G0 : Hp} {sp x na du : Addr} {A : Poly} {n d : Str → Int} {R : List (Str × Addr)} {ns ys : List Str} {G F : Hp} (e : LawE K Pt p l G0 sp x na du A n d R ns ys G) (spp : sp ≠ p) (b : But p G F) (t : TapeL F p l) : LawE K Pt p l G0 sp x na du A n d R ns ys F :=
  ⟨e.mv.trans (.but b), tabs_but e.tb e.tp b, t, PolyF.up e.pA (e.tp.tups b), SpotD.but e.ks b e.tp spp, b _ _ (e.tp.lst e.hn) e.hn, (e.tp.tups (K := K) b).t _ _ e.hd⟩
theorem LawE.same {K : PySem.W.Frag} {Pt p l : Addr} {G0 : Hp} {sp x na du : Addr} {A : Poly} {n d : Str → Int} {R : List (Str × Addr)} {ns ys : List Str} {G F : Hp} (e : LawE K Pt p l G0 sp x na du A n d R ns ys G) (spp : sp ≠ p) (b : Same G F) : LawE K Pt p l G0 sp x na du A n d R ns ys F :=
  e.but spp (But.same b) (e.tp.same b)
/-- one more fraction -/
theorem SpotD.add {H : Hp} {sp : Addr} {n d : Str → Int} {R : List (Str × Addr)} {xs : List Str} (q : SpotD H sp n d R xs) {x : Str} {t : Addr} {nn dd : Int} (nx : x ∉ xs) (ht : H t = some (.tup [.int nn, .int dd])) (b1 : nn.natAbs < 2 ^ 100) (b2 : 0 < dd) (b3 : dd.natAbs < 2 ^ 100) :
    SpotD (upd H sp (.dK (putK (dR R) (Sum.inr x) (.ref t)))) sp (fun y => if y = x then nn else n y) (fun y => if y = x then dd else d y) (R ++ [(x, t)]) (xs ++ [x]) := by
  have go : ∀ {b : Addr} {l : List V}, H b = some (.tup l) → upd H sp (.dK (putK (dR R) (Sum.inr x) (.ref t))) b = some (.tup l) := fun {b l} hb => (upd_ne fun e => by rw [e, q.at_] at hb; cases hb).trans hb
  have nxr : ∀ y ∈ R, y.1 ≠ x := fun y hy e => nx (by rw [← q.ks]; exact List.mem_map.mpr ⟨y, hy, e⟩)
  refine ⟨by rw [upd_same, putK_dR (by rw [q.ks]; exact nx)], by rw [List.map_append, q.ks]; rfl, fun y hy => ?_, List.nodup_append.mpr ⟨q.nd, List.nodup_cons.mpr ⟨(fun z => nomatch z), .nil⟩, fun a ha b hb e => ?_⟩, fun y hy => ?_⟩
  · rcases List.mem_append.mp hy with h | h
    · rw [if_neg (nxr y h), if_neg (nxr y h)]
      exact go (q.ls y h)
    · rw [List.mem_singleton.mp h, if_pos rfl, if_pos rfl]
      exact go ht
  · rw [List.mem_singleton.mp hb] at e
    rw [e] at ha
    exact nx ha
  · by_cases e : y = x
    · rw [if_pos e, if_pos e]
      exact ⟨b1, b2, b3⟩
    · rw [if_neg e, if_neg e]
      rcases List.mem_append.mp hy with h | h
      · exact q.b y h
      · exact absurd (List.mem_singleton.mp h) e
theorem fit34 {ns : List Str} {T : Poly} (nd : (T.map (·.1)).Nodup) (h : TabM ns 3 (10 ^ 10) 3 T) : Fit ns 3 34 3 (polyT T) := ⟨polyT_tame h nd (by decide) (by decide), Nat.le_trans (polyT_len T) h.len⟩
section
variable {P : Program} {w : World} {K : PySem.W.Frag} {mg : Str → Option Value} {base : Heap} {Pt fd0 ft fs fB fY fW fD fF fN fR fS fV fH fP fK fT : Addr} {dd0 dt ds dB dY dW dD dF dN dR' dS dV dH dP dK dT : FuncData}
theorem scLaw : FnScope ["script","tape","signs","turn","poly","spot","sign","names","due","more","small","other","number"] ["script"] (defScope sLaw) := ⟨rfl, rfl, rfl, by decide +kernel, rfl, by decide +kernel, by decide +kernel⟩
theorem ok_law {f : Addr} {fd : FuncData} (F : Fun K "law" "law" sLaw f fd) (Z : DrawTxt P w K mg base fd0 dd0) (Y : LawTxt P w K mg base Pt ft fs fB fY fW fD fF fN fR fS fV fH fP fK fT dt ds dB dY dW dD dF dN dR' dS dV dH dP dK dT) : FnOk P w K mg base CX0 8 f fd ["script"] (spLaw K Pt) := by
  refine F.ok scLaw (fun vs H Q E h => ?_) (fun cdv Ar outer s H vs Q E hr h => ?_)
  · obtain ⟨a, ns, rfl, _⟩ := h
    rfl
  · obtain ⟨a, ks, rfl, hs, tb, go⟩ := h
    refine ⟨_, (pss_cons (ps_set (i := 1) scLaw.nd rfl (Or.inl rfl) (pe_call Y.yt.ok (hr.mono (by decide)) rfl Y.yt.g Y.yt.k Y.yt.b .nil pass0 (pa_cons (pv 0) pa_nil)))
      (pss_cons (ps_set (i := 2) scLaw.nd rfl (Or.inl rfl) (pe_call Y.ys.ok (hr.mono (by decide)) rfl Y.ys.g Y.ys.k Y.ys.b .nil pass0 (pa_cons (pv 1) pa_nil)))
      (pss_cons (ps_for PassesOwn.never rfl (pi_range1 (by rfl) Z.range (pa_cons pe_int pa_nil)) (pg_name (i := 3) scLaw.nd rfl (Or.inl rfl)) (pss_cons (ps_set (i := 4) scLaw.nd rfl (Or.inl rfl) (pe_call Y.yD.ok (hr.mono (by decide)) rfl Y.yD.g Y.yD.k Y.yD.b .nil pass0 (pa_cons (pv 1) (pa_cons (pv 2) pa_nil))))
      (pss_cons (ps_set (i := 5) scLaw.nd rfl (Or.inl rfl) pe_dnewK)
      (pss_cons (ps_for PassesOwn.never rfl (pi_list (pv 2)) (pg_name (i := 6) scLaw.nd rfl (Or.inl rfl)) (pss_one (ps_dput (hu_of hr) (pv 5) (pv 6) (pe_call Y.yF.ok (hr.mono (by decide)) rfl Y.yF.g Y.yF.k Y.yF.b .nil pass0 (pa_cons (pv 1) pa_nil)) rfl)))
      (pss_cons (ps_set (i := 7) scLaw.nd rfl (Or.inr rfl) (pe_call Y.yN.ok (hr.mono (by decide)) rfl Y.yN.g Y.yN.k Y.yN.b .nil pass0 (pa_cons (pv 4) pa_nil)))
      (pss_cons (ps_set (i := 8) scLaw.nd rfl (Or.inl rfl) (pe_call Y.yR.ok (hr.mono (by decide)) rfl Y.yR.g Y.yR.k Y.yR.b .nil pass0 (pa_cons (pv 4) (pa_cons (pv 5) pa_nil))))
      (pss_cons (ps_if (pt_not (pt_val (pe_call Y.yS.ok (hr.mono (by decide)) rfl Y.yS.g Y.yS.k Y.yS.b .nil pass0 (pa_cons (pe_call Y.yV.ok (hr.mono (by decide)) rfl Y.yV.g Y.yV.k Y.yV.b .nil pass0 (pa_cons (pe_call Y.yH.ok (hr.mono (by decide)) rfl Y.yH.g Y.yH.k Y.yH.b .nil pass0 (pa_cons (pv 1) (pa_cons (pv 4) pa_nil))) (pa_cons (pe_call Y.yP.ok (hr.mono (by decide)) rfl Y.yP.g Y.yP.k Y.yP.b .nil pass0 (pa_cons (pv 1) (pa_cons (pv 7) (pa_cons (pv 5) pa_nil)))) pa_nil))) (pa_cons (pv 8) pa_nil))))) (pss_one (ps_ret pe_bl)) pss_nil)
      (pss_cons (ps_set (i := 9) scLaw.nd rfl (Or.inl rfl) (pe_op op_cat (pv 7) (pe_lc (own := [("sign", 6)]) (g := (gName 6)) (tt := (tTest (tOp (rIn K true) (tVar 6) (tVar 7)))) (te := (tVar 6)) rfl scLaw.nd (pi_list (pv 2)) (blkOk_by (own := [("sign", 6)]) (N := ["script", "tape", "signs", "turn", "poly", "spot", "sign", "names", "due", "more", "small", "other", "number"]) (sc := defScope sLaw) (by decide +kernel)) (fun _ _ _ _ _ => (pg_name (i := 6) scLaw.nd rfl (Or.inl rfl))) (fun _ _ _ _ _ => (pts_one (pt_cmpR op_notIn_seq (pv 6) (pv 7) (by rfl)))) (fun _ _ _ _ _ => (pv 6)))))
      (pss_cons (ps_if (pt_not (pt_val (pe_call Y.yS.ok (hr.mono (by decide)) rfl Y.yS.g Y.yS.k Y.yS.b .nil pass0 (pa_cons (pe_callN0 Y.yV.ok (hr.mono (by decide)) rfl Y.yV.g Y.yV.k Y.nV pass0 (pk_cons (pe_call Y.yP.ok (hr.mono (by decide)) rfl Y.yP.g Y.yP.k Y.yP.b .nil pass0 (pa_cons (pv 1) (pa_cons (pv 9) (pa_cons (pv 5) pa_nil)))) (pk_cons (pv 4) pk_nil))) (pa_cons (pv 8) pa_nil))))) (pss_one (ps_ret pe_bl)) pss_nil)
      (pss_cons (ps_if (PW.pt (pw_and (pt_cmpR op_gt (pe_callB call_len_seq (by rfl) Z.len PySem.boot_len (pa_cons (pv 7) pa_nil)) pe_int (nomark _)) (pw_and1 (pt_not (pt_val (pe_call Y.yK.ok (hr.mono (by decide)) rfl Y.yK.g Y.yK.k Y.yK.b .nil pass0 (pa_cons (pv 1) (pa_cons (pv 4) (pa_cons (pv 7) (pa_cons (pv 5) pa_nil)))))))))) (pss_one (ps_ret pe_bl)) pss_nil)
      (pss_cons (ps_set (i := 10) scLaw.nd rfl (Or.inl rfl) (pe_call Y.yY.ok (hr.mono (by decide)) rfl Y.yY.g Y.yY.k Y.yY.b .nil pass0 (pa_cons (pe_call Y.yB.ok (hr.mono (by decide)) rfl Y.yB.g Y.yB.k Y.yB.b .nil pass0 (pa_cons (pv 1) (pa_cons (pv 2) (pa_cons pe_int (pa_cons pe_int (pa_cons (pe_op op_pow pe_int pe_int) pa_nil)))))) pa_nil)))
      (pss_cons (ps_set (i := 11) scLaw.nd rfl (Or.inl rfl) (pe_call Y.yY.ok (hr.mono (by decide)) rfl Y.yY.g Y.yY.k Y.yY.b .nil pass0 (pa_cons (pe_call Y.yB.ok (hr.mono (by decide)) rfl Y.yB.g Y.yB.k Y.yB.b .nil pass0 (pa_cons (pv 1) (pa_cons (pv 2) (pa_cons pe_int (pa_cons pe_int (pa_cons (pe_op op_pow pe_int pe_int) pa_nil)))))) pa_nil)))
      (pss_one (ps_if (pt_not (pt_val (pe_call Y.yT.ok (hr.mono (by decide)) rfl Y.yT.g Y.yT.k Y.yT.b .nil pass0 (pa_cons (pv 1) (pa_cons (pv 2) (pa_cons (pv 5) (pa_cons (pv 10) (pa_cons (pv 11) pa_nil)))))))) (pss_one (ps_ret pe_bl)) pss_nil))))))))))))))
      (pss_cons (ps_set (i := 12) scLaw.nd rfl (Or.inl rfl) (pe_call Y.yW.ok (hr.mono (by decide)) rfl Y.yW.g Y.yW.k Y.yW.b .nil pass0 (pa_cons (pv 1) (pa_cons (pe_op op_pow pe_int pe_int) pa_nil))))
      (pss_one (ps_ret (pe_and (pe_call Y.yS.ok (hr.mono (by decide)) rfl Y.yS.g Y.yS.k Y.yS.b .nil pass0 (pa_cons (pe_call Y.yV.ok (hr.mono (by decide)) rfl Y.yV.g Y.yV.k Y.yV.b .nil pass0 (pa_cons (pe_tup (pa_cons (pe_tup (pa_cons (pe_tup pa_nil) (pa_cons (pv 12) pa_nil))) pa_nil)) (pa_cons (pe_tup pa_nil) pa_nil))) (pa_cons (pe_tup (pa_cons (pv 12) (pa_cons pe_int pa_nil))) pa_nil))) (pe_one (pe_call Y.yS.ok (hr.mono (by decide)) rfl Y.yS.g Y.yS.k Y.yS.b .nil pass0 (pa_cons (pe_call Y.yV.ok (hr.mono (by decide)) rfl Y.yV.g Y.yV.k Y.yV.b .nil pass0 (pa_cons (pe_tup pa_nil) (pa_cons (pe_lst pa_nil) pa_nil))) (pa_cons (pe_tup (pa_cons pe_int (pa_cons pe_int pa_nil))) pa_nil))))))))))), ?_⟩
    refine ⟨_, rfl, a, ks, rfl, hs, fun p G1 s1 np ⟨l, tp⟩ => ?_⟩
    refine ⟨_, rfl, p, l, rfl, tp, fun la ns G0 t0 b0 nla hla sg => ?_⟩
    have tb0 : Tabs (lamT Pt) G0 := tabs_but (tb.ext s1) tp b0
    have nm := sg.names
    have l6 := sg.l6
    have lap := t0.lst hla
    refine ⟨3, rfl, by decide, by decide, for_range (lo := 0) (n := 3) (fun i σ G => ∃ u3 u4 u5 u6 u7 u8 u9 u10 u11 : Option V, σ = [some (.ref a), some (.ref p), some (.ref la), u3, u4, u5, u6, u7, u8, u9, u10, u11, none] ∧ Tabs (lamT Pt) G ∧ TapeL G p l ∧ Mv p G0 G)
      ⟨_, _, _, _, _, _, _, _, _, rfl, tb0, t0, Mv.refl⟩ (fun i σ G hi ⟨u3, u4, u5, u6, u7, u8, u9, u10, u11, hσ, tbG, tG, mG⟩ => ?_) (fun σ G ⟨u3, u4, u5, u6, u7, u8, u9, u10, u11, hσ, tbG, tG, mG⟩ => ?_)⟩
    · subst hσ
      have hlaG := mG.lst t0 hla
      refine ⟨_, rfl, _, rfl, p, l, la, ns, rfl, tG, hlaG, sg, fun x A L e G2 pA dr t2 b2 => ?_⟩
      have m2 := mG.trans (.but b2)
      have tb2 := tabs_but tbG tG b2
      refine fun sp nsp => ?_
      have spl := (t2.none nsp).2
      have spp := (t2.none nsp).1
      have t3 := t2.up (o := .dK []) nsp
      have b3 : But p G2 (upd G2 sp (.dK [])) := But.new nsp
      have h3 : upd G2 sp (.dK []) sp = some (.dK (dR [])) := upd_same
      generalize upd G2 sp (.dK []) = G3 at t3 b3 h3 ⊢
      have hla2 := b2 _ _ lap hlaG
      have hla3 := b3 _ _ lap hla2
      refine ⟨_, rfl, la, rfl, ⟨_, SqL.of hla3⟩, ?_⟩
      refine for_it (walk_list (K := K) (a := la) (xs := ns.map V.str)) (fun j σ G => ∃ (u6 : Option V) (n d : Str → Int) (R : List (Str × Addr)), σ = [some (.ref a), some (.ref p), some (.ref la), some (.int (0 + (i : Int))), some (.ref x), some (.ref sp), u6, u7, u8, u9, u10, u11, none] ∧ TapeL G p l ∧ But p G2 G ∧ SpotD G sp n d R (ns.take j))
        ⟨_, fun _ => 0, fun _ => 1, [], rfl, t3, b3, ⟨h3, rfl, (fun x hx => nomatch hx), .nil, fun x hx => nomatch hx⟩⟩ (fun j σ G _ ⟨_, _, _, _, _, _, b, _⟩ => SqL.of (b _ _ lap hla2)) (fun j v σ G G' hj ⟨u6, n, d, R, hσ, tG', bG, ksp⟩ ⟨e', hv⟩ => ?_) (fun σ G ⟨u6, n, d, R, hσ, t4, b4, ks4⟩ => ?_)
      · subst hσ e'
        rw [List.getElem?_map] at hv
        obtain ⟨y, hy, rfl⟩ := Option.map_eq_some_iff.mp hv
        refine ⟨_, rfl, p, l, rfl, tG', fun t nn dd F t' b' ht c1 c2 c3 => ?_⟩
        have ksF := SpotD.but ksp b' tG' spp
        have ny : y ∉ ns.take j := fun q => by
          obtain ⟨j', hj'⟩ := List.mem_iff_getElem?.mp q
          rw [List.getElem?_take] at hj'
          split at hj'
          · have := (List.getElem?_inj (List.getElem?_eq_some_iff.mp hj').1 sg.nd).mp (hj'.trans hy.symm)
            omega
          · cases hj'
        refine ⟨_, rfl, _, rfl, sp, _, rfl, DPut.k (k := Sum.inr y) ksF.at_ (by rw [len_dR, ← List.length_map (f := (·.1)), ksF.ks, List.length_take, sizeLine_eq]; omega), ?_⟩
        have S' := SpotD.add ksF ny ht c1 c2 c3
        rw [← take_snoc hy] at S'
        exact ⟨_, _, _, _, rfl, t'.set spp spl, (bG.trans b').set nsp, S'⟩
      · rw [List.length_map, List.take_length] at ks4
        subst hσ
        have pA4 := PolyF.up pA (t2.tups b4)
        have tb4 := tabs_but tb2 t2 b4
        have m4 := m2.trans (.but b4)
        have Lsub := nodup_sub dr.nd dr.sub
        have nmL : NamesOk L := ⟨by omega, fun y hy => by have := (nm.nm y (dr.sub y hy)).1; rw [sizeLine_eq]; omega⟩
        have facN : ∀ f ∈ facs A, f.1 ∈ ns := fun f hf => by
          obtain ⟨u, hu, hf'⟩ := mem_facs.mp hf
          exact dr.sub _ (dr.tp.at_ u hu f hf').1
        refine ⟨_, rfl, x, A, L, e, 134, rfl, pA4, dr.tp, by omega, fun na ys G5 s5 nna hna up mem => ?_⟩
        have ysn : ∀ y ∈ ys, y ∈ ns := fun y hy => by
          obtain ⟨f, hf, rfl⟩ := (mem y).mp hy
          exact facN f hf
        have y6 : ys.length ≤ 6 := Nat.le_trans (nodup_sub up.nd ysn) l6
        have pA5 := PolyF.up pA4 (K1P.same_tups s5)
        refine ⟨_, rfl, _, rfl, x, sp, A, n, d, R, ns, L, e, 134, rfl, ⟨pA5, ks4.same s5, dr.tp, nmL, facN, dr.le, dr.e80, by decide⟩, fun du G6 s6 hdu => ?_⟩
        have E6 : LawE K Pt p l G0 sp x na du A n d R ns ys G6 := ⟨m4.trans (.same (s5.trans s6)), (tb4.ext s5).ext s6, (t4.same s5).same s6, PolyF.up pA5 (K1P.same_tups s6), (ks4.same s5).same s6, s6 _ _ hna, hdu⟩
        clear hdu hna pA5 pA4 tb4 m4 s5 s6 ks4 t4 nna
        have lA : A.length < sizeLine := by have := dr.len; rw [sizeLine_eq]; omega
        have ml := dr.tp.mlen nmL
        -- the value of the polynomial as it is handed in
        refine ⟨_, rfl, _, rfl, p, l, x, A, rfl, E6.tp, E6.pA.kv, lA, ml, fun hb hx G7 t7 b7 kh => ?_⟩
        have E7 := E6.but spp b7 t7
        refine ⟨_, rfl, _, rfl, _, rfl, p, l, na, sp, ys, ns, n, d, R, rfl, t7, E7.hn, by omega, E7.ks, spp, ysn, fun c pa xs G8 pm t8 b8 kx => ?_⟩
        have E8 := E7.but spp b8 t8
        have kh8 := kh.keep ((Mv.but b8).keeps t7)
        have x6 : xs.length ≤ 6 := by rw [pm.length_eq]; exact y6
        have vin : ∀ {c b c' : Bool} {G : Hp} {pa : Addr} {xs : List Str} {hx : Addr}, PolyC c b K G A hx → PairsC c' K G n d xs pa → xs.Nodup → (∀ y ∈ xs, y ∈ ns) → xs.length ≤ 1000 → SpotD G sp n d R ns → ValIn K G c b c' hx pa A n d xs L e 134 := fun h1 h2 h3 h4 h5 h6 => ⟨h1, h2, h3, h5, fun y hy => h6.b y (h4 y hy), nmL, by omega, dr.tp, dr.le, dr.e80, by decide⟩
        refine ⟨hb, hb, c, hx, pa, A, n, d, xs, L, e, 134, rfl, vin kh8 kx (pm.nodup_iff.mpr up.nd) (fun y hy => ysn y (pm.mem_iff.mp hy)) (by omega) E8.ks, fun f hf => pm.mem_iff.mpr ((mem f.1).mpr ⟨f, hf, rfl⟩), fun v1 G9 s9 h9 => ?_⟩
        have E9 := E8.same spp s9
        refine ⟨_, rfl, _, _, rfl, alike_two h9 E9.hd, fun G10 s10 => ⟨true, rfl, ifN rfl ?_⟩⟩
        have E10 := E9.same spp s10
        clear E6 E7 E8 E9 kh kh8 kx h9 s9 s10 b7 b8
        have hla10 := E10.mv.lst t0 hla
        refine ⟨_, rfl, _, rfl, la, rfl, ⟨_, SqL.of hla10⟩, fun D nD => ?_⟩
        have hyF : ∀ {F : Hp}, Same G10 F → F na = some (.lst (ys.map V.str)) := fun s => s _ _ E10.hn
        have fl : ∀ j, ((ns.take j).filter fun x => !decide (x ∈ ys)).length ≤ 6 := fun j => by
          refine Nat.le_trans (List.length_filter_le ..) ?_
          rw [List.length_take]
          omega
        refine lc_list (K := K) (a := la) (xs := ns.map V.str) (fun (j : Nat) (F : Hp) => Same G10 F ∧ F D = some (.lst (((ns.take j).filter fun x => !decide (x ∈ ys)).map V.str))) ⟨same_new nD, upd_same⟩
          (fun j F _ ⟨sf, _⟩ => SqL.of (sf _ _ hla10)) (fun j v F hv ⟨sf, hD⟩ => ?_) (fun F ⟨sf, hD⟩ => ?_)
        · rw [List.getElem?_map] at hv
          obtain ⟨y, hy, rfl⟩ := Option.map_eq_some_iff.mp hv
          refine ⟨rfl, _, rfl, _, rfl, na, _, rfl, .inl (SqL.of (hyF sf)), rfl, by rw [List.all_map]; exact List.all_eq_true.mpr fun x _ => rfl, _, rfl, ?_⟩
          rw [in_strs]
          have lt := fl j
          have en : (ns.take (j + 1)).filter (fun x => !decide (x ∈ ys)) = (ns.take j).filter (fun x => !decide (x ∈ ys)) ++ (if y ∈ ys then [] else [y]) := by
            rw [take_snoc hy, List.filter_append]
            congr 1
            by_cases z : y ∈ ys
            · rw [if_pos z, List.filter_cons, if_neg (by rw [decide_eq_true z]; exact Bool.false_ne_true)]
              rfl
            · rw [if_neg z, List.filter_cons, if_pos (by rw [decide_eq_false z]; rfl)]
              rfl
          by_cases z : y ∈ ys
          · refine ifN (by rw [decide_eq_true z]; rfl) ⟨sf, ?_⟩
            rw [en, if_pos z, List.append_nil]
            exact hD
          · refine ifY (by rw [decide_eq_false z]; rfl) ⟨_, rfl, _, hD, by rw [List.length_map, sizeLine_eq]; omega, fun b ob hb => (upd_ne fun w => by rw [w, nD] at hb; cases hb).trans (sf _ _ hb), ?_⟩
            rw [upd_same, en, if_neg z, List.map_append]
            rfl
        · have lt := fl ns.length
          rw [List.length_map, List.take_length] at hD
          rw [List.take_length] at lt
          refine ⟨na, D, _, _, rfl, rfl, hyF sf, hD, by rw [List.length_map, List.length_map, sizeLine_eq]; omega, fun mo nmo => ?_⟩
          have EA := E10.same spp (sf.trans (same_new (o := .lst (ys.map V.str ++ (ns.filter fun x => !decide (x ∈ ys)).map V.str)) nmo))
          have hmo : upd F mo (.lst (ys.map V.str ++ (ns.filter fun x => !decide (x ∈ ys)).map V.str)) mo = some (.lst ((ys ++ ns.filter fun x => !decide (x ∈ ys)).map V.str)) := by rw [upd_same, List.map_append]
          generalize upd F mo (.lst (ys.map V.str ++ (ns.filter fun x => !decide (x ∈ ys)).map V.str)) = GA at EA hmo ⊢
          clear E10 hla10 hyF sf hD nmo nD
          have zn : ∀ y ∈ ys ++ ns.filter (fun x => !decide (x ∈ ys)), y ∈ ns := fun y hy => (List.mem_append.mp hy).elim (ysn y) fun q => (List.mem_filter.mp q).1
          have znd : (ys ++ ns.filter (fun x => !decide (x ∈ ys))).Nodup := by
            refine List.nodup_append.mpr ⟨up.nd, List.Pairwise.filter _ sg.nd, fun y hy z hz e' => ?_⟩
            have := (List.mem_filter.mp hz).2
            rw [← e', decide_eq_true hy] at this
            exact Bool.false_ne_true this
          have zl : (ys ++ ns.filter (fun x => !decide (x ∈ ys))).length ≤ 12 := by rw [List.length_append]; omega
          refine ⟨_, rfl, _, rfl, _, rfl, p, l, mo, sp, _, ns, n, d, R, rfl, EA.tp, hmo, by omega, EA.ks, spp, zn, fun c2 pa2 xs2 GB pm2 tB bB kx2 => ?_⟩
          have EB := EA.but spp bB tB
          refine ⟨_, rfl, rfl, false, false, c2, x, pa2, A, n, d, xs2, L, e, 134, rfl, vin (polyB_of EB.pA.kv) kx2 (pm2.nodup_iff.mpr znd) (fun y hy => zn y (pm2.mem_iff.mp hy)) (by rw [pm2.length_eq]; omega) EB.ks, fun f hf => pm2.mem_iff.mpr (List.mem_append_left _ ((mem f.1).mpr ⟨f, hf, rfl⟩)), fun v2 GC sC hC => ?_⟩
          have EC := EB.same spp sC
          refine ⟨_, rfl, _, _, rfl, alike_two hC EC.hd, fun GD sD => ⟨true, rfl, ifN rfl ?_⟩⟩
          have ED := EC.same spp sD
          clear EA EB EC hC sC sD kx2 bB tB
          -- a name that lacks
          refine ⟨_, rfl, na, _, rfl, .inl (SqL.of ED.hn), _, _, rfl, rfl, _, rfl, ?_⟩
          refine ite2 (fun hc => ?aa) (fun hc => ?bb)
          case' aa =>
            have y0 : ys ≠ [] := fun z => by
              have := of_decide_eq_true hc
              rw [z] at this
              exact absurd this (by decide)
            refine ⟨_, rfl, _, rfl, _, rfl, _, rfl, p, l, x, na, sp, ns, ys, L, e, A, n, d, R, rfl, ED.tp, ED.pA, ED.hn, y0, mem, by omega, ED.ks, spp, nm, dr, fun GE tE bE => ⟨true, rfl, ifN rfl ?_⟩⟩
            have EE := ED.but spp bE tE
            clear ED bE tE hc
          case' bb =>
            refine ifN rfl ?_
            have EE := ED
            clear ED
          all_goals (
            have e10 : ((10 : Int) ^ (10 : Int).toNat) = ((10 ^ 10 : Nat) : Int) := by decide +kernel
            have g8 : (10 ^ 10 : Nat) < 2 ^ 8000 := Nat.lt_of_lt_of_le (show (10 ^ 10 : Nat) < 2 ^ 34 by decide) (Nat.pow_le_pow_right (by decide) (by decide))
            have hlaE := EE.mv.lst t0 hla
            refine ⟨_, rfl, _, rfl, _, _, rfl, rfl, ⟨by decide, by decide, by decide⟩, p, l, la, ns, 3, 3, 10 ^ 10, (by rw [← e10]; rfl), EE.tp, hlaE, sg, by decide, by decide, by decide, g8, fun d1 T1 GF tF bF nd1 dT1 tT1 => ?_⟩
            have EF := EE.but spp bF tF
            have fit1 := fit34 dT1.nd tT1
            refine ⟨d1, T1, rfl, dT1, fun t ht => (tT1.ok t ht).1, by have := tT1.len; rw [sizeLine_eq]; omega, fun xS GG sG pS => ?_⟩
            have EG := EF.same spp sG
            have hlaG' := EG.mv.lst t0 hla
            refine ⟨_, rfl, _, rfl, _, _, rfl, rfl, ⟨by decide, by decide, by decide⟩, p, l, la, ns, 3, 3, 10 ^ 10, (by rw [← e10]; rfl), EG.tp, hlaG', sg, by decide, by decide, by decide, g8, fun d2 T2 GH tH bH nd2 dT2 tT2 => ?_⟩
            have EH := EG.but spp bH tH
            have pS2 := PolyF.up pS (EG.tp.tups bH)
            have fit2 := fit34 dT2.nd tT2
            refine ⟨d2, T2, rfl, dT2, fun t ht => (tT2.ok t ht).1, by have := tT2.len; rw [sizeLine_eq]; omega, fun xO GI sI pO => ?_⟩
            have EI := EH.same spp sI
            have pS3 := PolyF.up pS2 (K1P.same_tups sI)
            refine ⟨_, rfl, _, rfl, _, rfl, _, rfl, _, rfl, p, l, la, sp, xS, xO, ns, _, _, n, d, R, rfl, EI.tb, EI.tp, pS3, pO, EI.ks, spp, nm, fit1, fit2, fun GJ tbJ tJ mJ => ⟨true, rfl, ifN rfl ?_⟩⟩
            exact ⟨_, _, _, _, _, _, _, _, _, rfl, tbJ, tJ, EI.mv.trans mJ⟩)
    · subst hσ
      obtain ⟨g, eg, g6, g133⟩ : ∃ g : Nat, ((10 : Int) ^ (40 : Int).toNat) = (g : Int) ∧ 1000000 ≤ g ∧ g < 2 ^ 133 := ⟨10 ^ 40, by decide +kernel, by decide +kernel, by decide +kernel⟩
      have g8 : g < 2 ^ 8000 := Nat.lt_of_lt_of_le g133 (Nat.pow_le_pow_right (by decide) (by decide))
      refine ⟨_, rfl, _, _, rfl, rfl, ⟨by decide, by decide, by decide⟩, p, l, g, (by rw [← eg]; rfl), tG, g6, g8, fun z GK z0 zl tK bK => ?_⟩
      have z0s : 0 ≤ sizeLine := Nat.zero_le _
      refine ⟨z0s, fun t1 nt1 => ⟨_, rfl, by show 2 ≤ sizeLine; decide, fun t2 nt2 => ⟨by show 1 ≤ sizeLine; decide, fun t3 nt3 => ⟨z0s, fun t4 nt4 => ?_⟩⟩⟩⟩
      have q1 := same_new (o := .tup []) nt1
      have h1 : upd GK t1 (.tup []) t1 = some (.tup []) := upd_same
      generalize upd GK t1 (.tup []) = W1 at q1 h1 nt2 nt3 nt4 ⊢
      have q2 := same_new (o := .tup [.ref t1, .int z]) nt2
      have h2 : upd W1 t2 (.tup [.ref t1, .int z]) t2 = some (.tup [.ref t1, .int z]) := upd_same
      have h1b := q2 _ _ h1
      generalize upd W1 t2 (.tup [.ref t1, .int z]) = W2 at q2 h2 h1b nt3 nt4 ⊢
      have q3 := same_new (o := .tup [.ref t2]) nt3
      have h3 : upd W2 t3 (.tup [.ref t2]) t3 = some (.tup [.ref t2]) := upd_same
      have h2b := q3 _ _ h2
      have h1c := q3 _ _ h1b
      generalize upd W2 t3 (.tup [.ref t2]) = W3 at q3 h3 h2b h1c nt4 ⊢
      have q4 := same_new (o := .tup []) nt4
      have h4 : upd W3 t4 (.tup []) t4 = some (.tup []) := upd_same
      have h3b := q4 _ _ h3
      have h2c := q4 _ _ h2b
      have h1d := q4 _ _ h1c
      generalize upd W3 t4 (.tup []) = W4 at q4 h4 h3b h2c h1d ⊢
      have kz : KeyV K W4 (polyK [([], z)]) (.ref t3) := .tup h3b (.cons (.tup h2c (.cons (.tup h1d .nil) (.cons (.int z) .nil))) .nil)
      have r1 : rP (frac (fun _ => 0) (fun _ => 1)) [([], z)] = ((z : Int) : Rat) := by
        show ((z : Int) : Rat) * 1 + 0 = _
        grind
      have noN : NamesOk [] := ⟨by decide, fun x hx => nomatch hx⟩
      have tz : Tame [] 0 134 [([], z)] := by
        refine ⟨⟨fun t ht => ?_, List.pairwise_singleton ..⟩, fun t ht f hf => ?_, fun t ht => ?_, by show 1 ≤ 4000; decide⟩
        · rw [List.mem_singleton.mp ht]
          exact ⟨⟨.nil, fun f hf => nomatch hf⟩, z0⟩
        · rw [List.mem_singleton.mp ht] at hf
          exact nomatch hf
        · rw [List.mem_singleton.mp ht]
          exact Nat.lt_of_le_of_lt zl (Nat.lt_trans g133 (Nat.pow_lt_pow_right (by decide) (by decide)))
      refine ⟨false, false, false, t3, t4, [([], z)], fun _ => 0, fun _ => 1, [], [], 0, 134, rfl, ⟨polyB_of kz, ⟨[], SqT.of h4, rfl, fun i x v h => by simp at h⟩, .nil, Nat.zero_le _, (fun x hx => nomatch hx), noN, by decide, tz, by decide, by decide, by decide⟩, (fun f hf => nomatch hf), fun v1 W5 s5 e5 => ?_⟩
      rw [r1] at e5
      refine ⟨_, rfl, by show 2 ≤ sizeLine; decide, fun t5 nt5 => ?_⟩
      have q5 := same_new (o := .tup [.int z, .int 1]) nt5
      have h5 : upd W5 t5 (.tup [.int z, .int 1]) t5 = some (.tup [.int z, .int 1]) := upd_same
      have e5b := q5 _ _ e5
      generalize upd W5 t5 (.tup [.int z, .int 1]) = W6 at q5 h5 e5b ⊢
      refine ⟨_, _, rfl, alike_two e5b h5, fun W7 s7 => ⟨true, rfl, ifY rfl ?_⟩⟩
      refine ⟨z0s, fun t6 nt6 => ⟨z0s, fun t7 nt7 => ?_⟩⟩
      have h6 : upd W7 t6 (.tup []) t6 = some (.tup []) := upd_same
      generalize upd W7 t6 (.tup []) = W8 at h6 nt7 ⊢
      have h7 : upd W8 t7 (.lst []) t7 = some (.lst []) := upd_same
      have h6b := same_new (o := .lst []) nt7 _ _ h6
      generalize upd W8 t7 (.lst []) = W9 at h7 h6b ⊢
      have k0 : KeyV K W9 (polyK []) (.ref t6) := .tup h6b .nil
      have t0' : Tame [] 0 134 [] := ⟨⟨(fun t ht => nomatch ht), .nil⟩, (fun t ht => nomatch ht), (fun t ht => nomatch ht), Nat.zero_le _⟩
      refine ⟨false, false, true, t6, t7, [], fun _ => 0, fun _ => 1, [], [], 0, 134, rfl, ⟨polyB_of k0, ⟨[], SqL.of h7, rfl, fun i x v h => by simp at h⟩, .nil, Nat.zero_le _, (fun x hx => nomatch hx), noN, by decide, t0', by decide, by decide, by decide⟩, (fun f hf => nomatch hf), fun v2 WA sA eA => ?_⟩
      refine ⟨by show 2 ≤ sizeLine; decide, fun t8 nt8 => ?_⟩
      have h8 : upd WA t8 (.tup [.int 0, .int 1]) t8 = some (.tup [.int 0, .int 1]) := upd_same
      have eB := same_new (o := .tup [.int 0, .int 1]) nt8 _ _ eA
      generalize upd WA t8 (.tup [.int 0, .int 1]) = WB at h8 eB ⊢
      exact ⟨_, _, rfl, alike_two eB h8, fun WC sC => go WC⟩
end
end K5

set_option Elab.async false
set_option linter.all false
set_option maxRecDepth 100000
set_option maxHeartbeats 8000000
/-! What the top has written. -/
namespace K1P
open PySem L2 K1D
/-- an own error class over the base at B, at C -/
structure ClsFacts (K : PySem.W.Frag) (B C f : Addr) (x fld : Str) : Prop where
  gC : PySem.W.nsIn K mainGlobals x = some (some (.ref C))
  xL : ∃ nm q N bs sn sub ab col dd k0 k1 k2 k3 k5, K.lookup C = some (excClassObj nm q C N bs [.ref B, .type "Exception", .type "BaseException", .type "object"] true sn sub ab col dd k0 k1 k2 k3 k5 "Exception.__new__")
  sa : PySem.W.findIn K (.ref C) "__setattr__" = some (some (.builtin "object.__setattr__"))
  ga : PySem.W.findIn K (.ref C) "__getattribute__" = some (some (.builtin "BaseException.__getattribute__"))
  gg : PySem.W.findIn K (.ref C) "__getattr__" = some none
  nb : PySem.W.findIn K (.ref C) fld = some none
  cc : PySem.W.findIn K (.ref C) "__class__" = some (some (.builtin "object.__class__"))
  iC : PySem.W.findIn K (.ref C) "__init__" = some (some (.ref f))
  tI : PySem.W.typeIn K (.ref f) = some (.type "function")
  kC : PySem.W.keepIn K (.ref C) = true
  tC : PySem.W.typeIn K (.ref C) = some (.type "type")
section
variable {K : PySem.W.Frag} {B C f : Addr} {x fld : Str}
def line (B C : Addr) : List Value := [.ref C, .ref B, .type "Exception", .type "BaseException", .type "object"]
theorem ClsFacts.cls (T : ClsFacts K B C f x fld) : ∃ cd, PySem.W.clsIn K C = some cd ∧ cd.mro = line B C ∧ cd.hasDict = true := by
  obtain ⟨nm, q, N, bs, sn, sub, ab, col, dd, k0, k1, k2, k3, k5, h⟩ := T.xL
  refine ⟨{ name := nm, bases := bs, mro := line B C, ns := N, qualname := q, hasDict := true, slotNames := sn, subclasses := sub, abstract := ab, collection := col, hasDel := false }, ?_, rfl, rfl⟩
  unfold PySem.W.clsIn
  rw [h]
  rfl
theorem ClsFacts.sub (T : ClsFacts K B C f x fld) (v : Value) : PySem.W.subIn K (.ref C) v = some ((line B C).contains v) := by
  obtain ⟨cd, h1, h2, _⟩ := T.cls
  show PySem.W.mroIn K C v = _
  unfold PySem.W.mroIn
  rw [h1, Option.bind_some, h2]
  rfl
theorem ClsFacts.err (T : ClsFacts K B C f x fld) : ErrC K C where
  cls := by
    obtain ⟨nm, q, N, bs, sn, sub, ab, col, dd, k0, k1, k2, k3, k5, h⟩ := T.xL
    exact ⟨nm, q, N, bs, _, sn, sub, ab, col, dd, k0, k1, k2, k3, k5, h, [B], rfl⟩
  sa := T.sa
  exC := (T.sub _).trans (by rfl)
  tyC := T.tC
  kC := T.kC
theorem ClsFacts.has (T : ClsFacts K B C f x fld) : PySem.W.hasDictIn K C = true := by
  obtain ⟨cd, h1, _, h3⟩ := T.cls
  unfold PySem.W.hasDictIn
  rw [h1]
  exact h3
theorem ClsFacts.xf (T : ClsFacts K B C f x fld) : XfC K C := ⟨T.ga, T.gg, (T.sub _).trans (by rfl), T.has⟩
theorem ClsFacts.ask (T : ClsFacts K B C f x fld) (g1 : PySem.W.specialIn K (.builtin "object.__class__") "__get__" = some (some (.builtin "getset_descriptor.__get__"))) (g2 : PySem.W.takesIn K (.builtin "object.__class__") = some true) : AskC K C where
  cl := by
    obtain ⟨cd, h1, _⟩ := T.cls
    rw [h1]
    rfl
  ga := T.ga
  gg := T.gg
  exC := (T.sub _).trans (by rfl)
  cls := T.cc
  get := g1
  tak := g2
  obj := (T.sub _).trans (by rfl)
theorem ref_bne {a b : Addr} (h : a ≠ b) : (Value.ref a == Value.ref b) = false := by simp [h]
theorem kit_of_cls {D : Addr} {b : Bool} (h1 : (PySem.W.clsIn K D).isSome = true) (h2 : PySem.W.typeIn K (.ref D) = some (.type "type")) (h3 : PySem.W.subIn K (.ref C) (.ref D) = some b) (h4 : C = D → b = true) : PySem.W.kitOne K (.ref C) (.ref D) = some b := by
  unfold PySem.W.kitOne
  by_cases e : C = D
  · subst e
    rw [if_pos (by simp), h4 rfl]
  · rw [if_neg (by simp [e])]
    show (if ((PySem.W.clsIn K D).isSome && PySem.W.typeIn K (.ref D) == some (.type "type")) = true then PySem.W.subIn K (.ref C) (.ref D) else none) = _
    rw [h1, h2, if_pos (by rfl), h3]
theorem exm_of_cls {D : Addr} {b : Bool} (h0 : PySem.W.subIn K (.ref D) (.type "BaseException") = some true) (h1 : (PySem.W.clsIn K D).isSome = true) (h2 : PySem.W.typeIn K (.ref D) = some (.type "type")) (h3 : PySem.W.subIn K (.ref C) (.ref D) = some b) : PySem.W.exmOne K (.ref C) (.ref D) = some b := by
  unfold PySem.W.exmOne
  rw [h0, if_pos (by rfl)]
  show (if ((PySem.W.clsIn K D).isSome && PySem.W.typeIn K (.ref D) == some (.type "type")) = true then PySem.W.subIn K (.ref C) (.ref D) else none) = _
  rw [h1, h2, if_pos (by rfl), h3]
theorem ClsFacts.other (T : ClsFacts K B C f x fld) {D : Addr} (hB : D ≠ B) : PySem.W.subIn K (.ref C) (.ref D) = some (decide (C = D)) := by
  rw [T.sub]
  by_cases e : C = D
  · subst e
    simp [line]
  · have e2 : ¬ D = C := fun z => e z.symm
    simp [line, e, e2, hB]
end
end K1P
namespace K5T
open PySem L2 K1D K1P K2P
open LamX (Tabs ExtN TabB)
theorem great_of {p : Program} {n : Int} {mg : Str → Option Value} {h : Heap} (x : PySem.W.XL p [("TOO_GREAT", PySem.W.WData.int n)] mg h) (e : n = tooGreat) : ∃ t, mg "TOO_GREAT" = some (.int tooGreat t) := by
  obtain ⟨v, hv, r⟩ := x.2.val ("TOO_GREAT", PySem.W.WData.int n) (List.mem_singleton.mpr rfl)
  subst e
  cases r with
  | int i t => exact ⟨t, hv⟩
theorem all_mk {l : PySem.W.OpenLaw} {w : World} {K : PySem.W.Frag} {h : Heap} {mg : Str → Option Value} {fa Pt : Addr} (great : ∃ t, mg "TOO_GREAT" = some (.int tooGreat t)) (X : K.In h) (G : h.Ns mainGlobals mg) (hfa : mg "law" = some (.ref fa))
    {CF cR Froomy : Addr} {od_roomy an_roomy : Option Addr} {sl_roomy : Array (Option Value)} {oc_roomy kV_roomy dc_roomy pm_roomy ct_roomy : Value} {tMost : _} {tRows : _}
    {Ffinit : Addr} {od_finit an_finit : Option Addr} {sl_finit : Array (Option Value)} {oc_finit kV_finit dc_finit pm_finit cd_finit ct_finit : Value}
    {Fpacked : Addr} {od_packed an_packed : Option Addr} {sl_packed : Array (Option Value)} {oc_packed kV_packed dc_packed pm_packed cd_packed ct_packed : Value}
    {Fkey : Addr} {od_key an_key : Option Addr} {sl_key : Array (Option Value)} {oc_key kV_key dc_key pm_key cd_key ct_key : Value}
    {Ftold : Addr} {od_told an_told : Option Addr} {sl_told : Array (Option Value)} {oc_told kV_told dc_told pm_told cd_told ct_told : Value}
    {Fmono : Addr} {od_mono an_mono : Option Addr} {sl_mono : Array (Option Value)} {oc_mono kV_mono dc_mono pm_mono cd_mono ct_mono : Value}
    {Flow : Addr} {od_low an_low : Option Addr} {sl_low : Array (Option Value)} {oc_low kV_low dc_low pm_low cd_low ct_low : Value}
    {Fpowers : Addr} {od_powers an_powers : Option Addr} {sl_powers : Array (Option Value)} {oc_powers kV_powers dc_powers pm_powers cd_powers ct_powers : Value}
    {Fval : Addr} {od_val an_val : Option Addr} {sl_val : Array (Option Value)} {oc_val kV_val dc_val pm_val cd_val ct_val : Value}
    {Fvars : Addr} {od_vars an_vars : Option Addr} {sl_vars : Array (Option Value)} {oc_vars kV_vars dc_vars pm_vars cd_vars ct_vars : Value}
    {Fplus : Addr} {od_plus an_plus : Option Addr} {sl_plus : Array (Option Value)} {oc_plus kV_plus dc_plus pm_plus cd_plus ct_plus : Value}
    {Fmost : Addr} {od_most an_most : Option Addr} {sl_most : Array (Option Value)} {oc_most kV_most dc_most pm_most cd_most ct_most : Value}
    {Frow : Addr} {od_row an_row : Option Addr} {sl_row : Array (Option Value)} {oc_row kV_row dc_row pm_row cd_row ct_row : Value}
    {Fcount : Addr} {od_count an_count : Option Addr} {sl_count : Array (Option Value)} {oc_count kV_count dc_count pm_count cd_count ct_count : Value}
    {Fdeg : Addr} {od_deg an_deg : Option Addr} {sl_deg : Array (Option Value)} {oc_deg kV_deg dc_deg pm_deg cd_deg ct_deg : Value}
    {Fgrt : Addr} {od_grt an_grt : Option Addr} {sl_grt : Array (Option Value)} {oc_grt kV_grt dc_grt pm_grt cd_grt ct_grt : Value}
    {Fadded : Addr} {od_added an_added : Option Addr} {sl_added : Array (Option Value)} {oc_added kV_added dc_added pm_added cd_added ct_added : Value}
    {Fmul : Addr} {od_mul an_mul : Option Addr} {sl_mul : Array (Option Value)} {oc_mul kV_mul dc_mul pm_mul cd_mul ct_mul : Value}
    {Fchk : Addr} {od_chk an_chk : Option Addr} {sl_chk : Array (Option Value)} {oc_chk kV_chk dc_chk pm_chk cd_chk ct_chk : Value}
    {Ftoldf : Addr} {od_toldf an_toldf : Option Addr} {sl_toldf : Array (Option Value)} {oc_toldf kV_toldf dc_toldf pm_toldf cd_toldf ct_toldf : Value}
    {Fby : Addr} {od_by an_by : Option Addr} {sl_by : Array (Option Value)} {oc_by kV_by dc_by pm_by cd_by ct_by : Value}
    {Fof : Addr} {od_of an_of : Option Addr} {sl_of : Array (Option Value)} {oc_of kV_of dc_of pm_of cd_of ct_of : Value}
    {Ftape : Addr} {od_tape an_tape : Option Addr} {sl_tape : Array (Option Value)} {oc_tape kV_tape dc_tape pm_tape cd_tape ct_tape : Value}
    {Fload : Addr} {od_load an_load : Option Addr} {sl_load : Array (Option Value)} {oc_load kV_load dc_load pm_load cd_load ct_load : Value}
    {Fdraw : Addr} {od_draw an_draw : Option Addr} {sl_draw : Array (Option Value)} {oc_draw kV_draw dc_draw pm_draw cd_draw ct_draw : Value}
    {Fsame : Addr} {od_same an_same : Option Addr} {sl_same : Array (Option Value)} {oc_same kV_same dc_same pm_same cd_same ct_same : Value}
    {Fsigns : Addr} {od_signs an_signs : Option Addr} {sl_signs : Array (Option Value)} {oc_signs kV_signs dc_signs pm_signs cd_signs ct_signs : Value}
    {Ffactor : Addr} {od_factor an_factor : Option Addr} {sl_factor : Array (Option Value)} {oc_factor kV_factor dc_factor pm_factor cd_factor ct_factor : Value}
    {Ftable : Addr} {od_table an_table : Option Addr} {sl_table : Array (Option Value)} {oc_table kV_table dc_table pm_table cd_table ct_table : Value}
    {Fpolyt : Addr} {od_polyt an_polyt : Option Addr} {sl_polyt : Array (Option Value)} {oc_polyt kV_polyt dc_polyt pm_polyt cd_polyt ct_polyt : Value}
    {Fhand : Addr} {od_hand an_hand : Option Addr} {sl_hand : Array (Option Value)} {oc_hand kV_hand dc_hand pm_hand cd_hand ct_hand : Value}
    {Fdiv : Addr} {od_div an_div : Option Addr} {sl_div : Array (Option Value)} {oc_div kV_div dc_div pm_div cd_div ct_div : Value}
    {Fllow : Addr} {od_llow an_llow : Option Addr} {sl_llow : Array (Option Value)} {oc_llow kV_llow dc_llow pm_llow cd_llow ct_llow : Value}
    {Ffrac : Addr} {od_frac an_frac : Option Addr} {sl_frac : Array (Option Value)} {oc_frac kV_frac dc_frac pm_frac cd_frac ct_frac : Value}
    {Fown : Addr} {od_own an_own : Option Addr} {sl_own : Array (Option Value)} {oc_own kV_own dc_own pm_own cd_own ct_own : Value}
    {Freck : Addr} {od_reck an_reck : Option Addr} {sl_reck : Array (Option Value)} {oc_reck kV_reck dc_reck pm_reck cd_reck ct_reck : Value}
    {Fpairs : Addr} {od_pairs an_pairs : Option Addr} {sl_pairs : Array (Option Value)} {oc_pairs kV_pairs dc_pairs pm_pairs cd_pairs ct_pairs : Value}
    {Fnames : Addr} {od_names an_names : Option Addr} {sl_names : Array (Option Value)} {oc_names kV_names dc_names pm_names cd_names ct_names : Value}
    {Flack : Addr} {od_lack an_lack : Option Addr} {sl_lack : Array (Option Value)} {oc_lack kV_lack dc_lack pm_lack cd_lack ct_lack : Value}
    {Fdrawn : Addr} {od_drawn an_drawn : Option Addr} {sl_drawn : Array (Option Value)} {oc_drawn kV_drawn dc_drawn pm_drawn cd_drawn ct_drawn : Value}
    {Ftwo : Addr} {od_two an_two : Option Addr} {sl_two : Array (Option Value)} {oc_two kV_two dc_two pm_two cd_two ct_two : Value}
    {Flaw : Addr} {od_law an_law : Option Addr} {sl_law : Array (Option Value)} {oc_law kV_law dc_law pm_law cd_law ct_law : Value}
    {B C f0 N0 M : Addr} {nm0 q0 : Str} {bs0 sub0 : List Value} {sn0 : List Str} {ab0 : Bool} {col0 : Option Bool} {dd0 od0 an0 : Option Addr} {m0a m0b m0c m0d m0e : Option Value} {oc0 kV0 dc0 pm0 cd0 ct0 : Value} {sl0 : Array (Option Value)}
    (a_F : PySem.W.nsIn K mainGlobals "Fields" = some (some (.ref CF)))
    (F_pg : PySem.W.plainGet K CF Str.empty = true)
    (F_hd : PySem.W.hasDictIn K CF = true)
    (F_po : PySem.W.plainOver K CF = true)
    (F_sa : PySem.W.findIn K (.ref CF) "__setattr__" = some (some (.builtin "object.__setattr__")))
    (F_nN : PySem.W.findIn K (.ref CF) "names" = some none)
    (F_nW : PySem.W.findIn K (.ref CF) "weights" = some none)
    (F_nP : PySem.W.findIn K (.ref CF) "places" = some none)
    (F_mk : PySem.W.makesIn K CF = true)
    (F_kp : PySem.W.keepIn K (.ref CF) = true)
    (a_finit : PySem.W.findIn K (.ref CF) "__init__" = some (some (.ref Ffinit)))
    (f_finit : PySem.W.isFn K (.ref Ffinit) = true)
    (l_finit : K.lookup Ffinit = some ⟨oc_finit, od_finit, .func (PySem.W.fnOf "__init__" "Fields.__init__" (defArgs sFInit) (defBody sFInit) (defScope sFInit) .none kV_finit dc_finit pm_finit an_finit cd_finit ct_finit), sl_finit⟩)
    (c_finit : PySem.W.codeIn K cd_finit "Fields.__init__" = true)
    (k_finit : PySem.W.keepIn K (.ref Ffinit) = true)
    (a_packed : PySem.W.findIn K (.ref CF) "packed" = some (some (.ref Fpacked)))
    (f_packed : PySem.W.isFn K (.ref Fpacked) = true)
    (l_packed : K.lookup Fpacked = some ⟨oc_packed, od_packed, .func (PySem.W.fnOf "packed" "Fields.packed" (defArgs sPacked) (defBody sPacked) (defScope sPacked) .none kV_packed dc_packed pm_packed an_packed cd_packed ct_packed), sl_packed⟩)
    (c_packed : PySem.W.codeIn K cd_packed "Fields.packed" = true)
    (k_packed : PySem.W.keepIn K (.ref Fpacked) = true)
    (a_key : PySem.W.findIn K (.ref CF) "key" = some (some (.ref Fkey)))
    (f_key : PySem.W.isFn K (.ref Fkey) = true)
    (l_key : K.lookup Fkey = some ⟨oc_key, od_key, .func (PySem.W.fnOf "key" "Fields.key" (defArgs sKey) (defBody sKey) (defScope sKey) .none kV_key dc_key pm_key an_key cd_key ct_key), sl_key⟩)
    (c_key : PySem.W.codeIn K cd_key "Fields.key" = true)
    (k_key : PySem.W.keepIn K (.ref Fkey) = true)
    (a_told : PySem.W.findIn K (.ref CF) "told" = some (some (.ref Ftold)))
    (f_told : PySem.W.isFn K (.ref Ftold) = true)
    (l_told : K.lookup Ftold = some ⟨oc_told, od_told, .func (PySem.W.fnOf "told" "Fields.told" (defArgs sTold) (defBody sTold) (defScope sTold) .none kV_told dc_told pm_told an_told cd_told ct_told), sl_told⟩)
    (c_told : PySem.W.codeIn K cd_told "Fields.told" = true)
    (k_told : PySem.W.keepIn K (.ref Ftold) = true)
    (a_mono : PySem.W.findIn K (.ref CF) "monomial" = some (some (.ref Fmono)))
    (f_mono : PySem.W.isFn K (.ref Fmono) = true)
    (l_mono : K.lookup Fmono = some ⟨oc_mono, od_mono, .func (PySem.W.fnOf "monomial" "Fields.monomial" (defArgs sMono) (defBody sMono) (defScope sMono) .none kV_mono dc_mono pm_mono an_mono cd_mono ct_mono), sl_mono⟩)
    (c_mono : PySem.W.codeIn K cd_mono "Fields.monomial" = true)
    (k_mono : PySem.W.keepIn K (.ref Fmono) = true)
    (a_low : PySem.W.nsIn K mainGlobals "lowest" = some (some (.ref Flow)))
    (l_low : K.lookup Flow = some ⟨oc_low, od_low, .func (PySem.W.fnOf "lowest" "lowest" (defArgs K5.sLow) (defBody K5.sLow) (defScope K5.sLow) .none kV_low dc_low pm_low an_low cd_low ct_low), sl_low⟩)
    (c_low : PySem.W.codeIn K cd_low "lowest" = true)
    (k_low : PySem.W.keepIn K (.ref Flow) = true)
    (a_powers : PySem.W.nsIn K mainGlobals "_powers" = some (some (.ref Fpowers)))
    (l_powers : K.lookup Fpowers = some ⟨oc_powers, od_powers, .func (PySem.W.fnOf "_powers" "_powers" (defArgs K5.sPowers) (defBody K5.sPowers) (defScope K5.sPowers) .none kV_powers dc_powers pm_powers an_powers cd_powers ct_powers), sl_powers⟩)
    (c_powers : PySem.W.codeIn K cd_powers "_powers" = true)
    (k_powers : PySem.W.keepIn K (.ref Fpowers) = true)
    (a_val : PySem.W.nsIn K mainGlobals "value" = some (some (.ref Fval)))
    (l_val : K.lookup Fval = some ⟨oc_val, od_val, .func (PySem.W.fnOf "value" "value" (defArgs K5.sVal) (defBody K5.sVal) (defScope K5.sVal) .none kV_val dc_val pm_val an_val cd_val ct_val), sl_val⟩)
    (c_val : PySem.W.codeIn K cd_val "value" = true)
    (k_val : PySem.W.keepIn K (.ref Fval) = true)
    (a_vars : PySem.W.nsIn K mainGlobals "variables" = some (some (.ref Fvars)))
    (l_vars : K.lookup Fvars = some ⟨oc_vars, od_vars, .func (PySem.W.fnOf "variables" "variables" (defArgs sVars) (defBody sVars) (defScope sVars) .none kV_vars dc_vars pm_vars an_vars cd_vars ct_vars), sl_vars⟩)
    (c_vars : PySem.W.codeIn K cd_vars "variables" = true)
    (k_vars : PySem.W.keepIn K (.ref Fvars) = true)
    (a_plus : PySem.W.nsIn K mainGlobals "plus" = some (some (.ref Fplus)))
    (l_plus : K.lookup Fplus = some ⟨oc_plus, od_plus, .func (PySem.W.fnOf "plus" "plus" (defArgs K1P.sPlus) (defBody K1P.sPlus) (defScope K1P.sPlus) .none kV_plus dc_plus pm_plus an_plus cd_plus ct_plus), sl_plus⟩)
    (c_plus : PySem.W.codeIn K cd_plus "plus" = true)
    (k_plus : PySem.W.keepIn K (.ref Fplus) = true)
    (a_most : PySem.W.nsIn K mainGlobals "times_at_most" = some (some (.ref Fmost)))
    (l_most : K.lookup Fmost = some ⟨oc_most, od_most, .func (PySem.W.fnOf "times_at_most" "times_at_most" (defArgs sMost) (defBody sMost) (defScope sMost) .none kV_most dc_most pm_most an_most cd_most ct_most), sl_most⟩)
    (c_most : PySem.W.codeIn K cd_most "times_at_most" = true)
    (k_most : PySem.W.keepIn K (.ref Fmost) = true)
    (a_row : PySem.W.nsIn K mainGlobals "_add_row" = some (some (.ref Frow)))
    (l_row : K.lookup Frow = some ⟨oc_row, od_row, .func (PySem.W.fnOf "_add_row" "_add_row" (defArgs sRow) (defBody sRow) (defScope sRow) .none kV_row dc_row pm_row an_row cd_row ct_row), sl_row⟩)
    (c_row : PySem.W.codeIn K cd_row "_add_row" = true)
    (k_row : PySem.W.keepIn K (.ref Frow) = true)
    (a_count : PySem.W.nsIn K mainGlobals "_count_below" = some (some (.ref Fcount)))
    (l_count : K.lookup Fcount = some ⟨oc_count, od_count, .func (PySem.W.fnOf "_count_below" "_count_below" (defArgs sCount) (defBody sCount) (defScope sCount) .none kV_count dc_count pm_count an_count cd_count ct_count), sl_count⟩)
    (c_count : PySem.W.codeIn K cd_count "_count_below" = true)
    (k_count : PySem.W.keepIn K (.ref Fcount) = true)
    (a_deg : PySem.W.nsIn K mainGlobals "degrees" = some (some (.ref Fdeg)))
    (l_deg : K.lookup Fdeg = some ⟨oc_deg, od_deg, .func (PySem.W.fnOf "degrees" "degrees" (defArgs sDeg) (defBody sDeg) (defScope sDeg) .none kV_deg dc_deg pm_deg an_deg cd_deg ct_deg), sl_deg⟩)
    (c_deg : PySem.W.codeIn K cd_deg "degrees" = true)
    (k_deg : PySem.W.keepIn K (.ref Fdeg) = true)
    (a_grt : PySem.W.nsIn K mainGlobals "greatest_exponent" = some (some (.ref Fgrt)))
    (l_grt : K.lookup Fgrt = some ⟨oc_grt, od_grt, .func (PySem.W.fnOf "greatest_exponent" "greatest_exponent" (defArgs sGreatest) (defBody sGreatest) (defScope sGreatest) .none kV_grt dc_grt pm_grt an_grt cd_grt ct_grt), sl_grt⟩)
    (c_grt : PySem.W.codeIn K cd_grt "greatest_exponent" = true)
    (k_grt : PySem.W.keepIn K (.ref Fgrt) = true)
    (a_added : PySem.W.nsIn K mainGlobals "added" = some (some (.ref Fadded)))
    (l_added : K.lookup Fadded = some ⟨oc_added, od_added, .func (PySem.W.fnOf "added" "added" (defArgs K1P.sAdded) (defBody K1P.sAdded) (defScope K1P.sAdded) .none kV_added dc_added pm_added an_added cd_added ct_added), sl_added⟩)
    (c_added : PySem.W.codeIn K cd_added "added" = true)
    (k_added : PySem.W.keepIn K (.ref Fadded) = true)
    (a_mul : PySem.W.nsIn K mainGlobals "multiplied" = some (some (.ref Fmul)))
    (l_mul : K.lookup Fmul = some ⟨oc_mul, od_mul, .func (PySem.W.fnOf "multiplied" "multiplied" (defArgs sMul) (defBody sMul) (defScope sMul) .none kV_mul dc_mul pm_mul an_mul cd_mul ct_mul), sl_mul⟩)
    (c_mul : PySem.W.codeIn K cd_mul "multiplied" = true)
    (k_mul : PySem.W.keepIn K (.ref Fmul) = true)
    (a_chk : PySem.W.nsIn K mainGlobals "_check_limits" = some (some (.ref Fchk)))
    (l_chk : K.lookup Fchk = some ⟨oc_chk, od_chk, .func (PySem.W.fnOf "_check_limits" "_check_limits" (defArgs K1P.sCheck) (defBody K1P.sCheck) (defScope K1P.sCheck) .none kV_chk dc_chk pm_chk an_chk cd_chk ct_chk), sl_chk⟩)
    (c_chk : PySem.W.codeIn K cd_chk "_check_limits" = true)
    (k_chk : PySem.W.keepIn K (.ref Fchk) = true)
    (a_toldf : PySem.W.nsIn K mainGlobals "_told" = some (some (.ref Ftoldf)))
    (l_toldf : K.lookup Ftoldf = some ⟨oc_toldf, od_toldf, .func (PySem.W.fnOf "_told" "_told" (defArgs sToldF) (defBody sToldF) (defScope sToldF) .none kV_toldf dc_toldf pm_toldf an_toldf cd_toldf ct_toldf), sl_toldf⟩)
    (c_toldf : PySem.W.codeIn K cd_toldf "_told" = true)
    (k_toldf : PySem.W.keepIn K (.ref Ftoldf) = true)
    (a_by : PySem.W.nsIn K mainGlobals "_by_monomials" = some (some (.ref Fby)))
    (l_by : K.lookup Fby = some ⟨oc_by, od_by, .func (PySem.W.fnOf "_by_monomials" "_by_monomials" (defArgs K1P.sBy) (defBody K1P.sBy) (defScope K1P.sBy) .none kV_by dc_by pm_by an_by cd_by ct_by), sl_by⟩)
    (c_by : PySem.W.codeIn K cd_by "_by_monomials" = true)
    (k_by : PySem.W.keepIn K (.ref Fby) = true)
    (a_of : PySem.W.nsIn K mainGlobals "_of_monomials" = some (some (.ref Fof)))
    (l_of : K.lookup Fof = some ⟨oc_of, od_of, .func (PySem.W.fnOf "_of_monomials" "_of_monomials" (defArgs K1P.sOf) (defBody K1P.sOf) (defScope K1P.sOf) .none kV_of dc_of pm_of an_of cd_of ct_of), sl_of⟩)
    (c_of : PySem.W.codeIn K cd_of "_of_monomials" = true)
    (k_of : PySem.W.keepIn K (.ref Fof) = true)
    (a_tape : PySem.W.nsIn K mainGlobals "_law_tape" = some (some (.ref Ftape)))
    (l_tape : K.lookup Ftape = some ⟨oc_tape, od_tape, .func (PySem.W.fnOf "_law_tape" "_law_tape" (defArgs K3.sTape) (defBody K3.sTape) (defScope K3.sTape) .none kV_tape dc_tape pm_tape an_tape cd_tape ct_tape), sl_tape⟩)
    (c_tape : PySem.W.codeIn K cd_tape "_law_tape" = true)
    (k_tape : PySem.W.keepIn K (.ref Ftape) = true)
    (a_load : PySem.W.nsIn K mainGlobals "_law_load" = some (some (.ref Fload)))
    (l_load : K.lookup Fload = some ⟨oc_load, od_load, .func (PySem.W.fnOf "_law_load" "_law_load" (defArgs K3.sLoad) (defBody K3.sLoad) (defScope K3.sLoad) .none kV_load dc_load pm_load an_load cd_load ct_load), sl_load⟩)
    (c_load : PySem.W.codeIn K cd_load "_law_load" = true)
    (k_load : PySem.W.keepIn K (.ref Fload) = true)
    (a_draw : PySem.W.nsIn K mainGlobals "_law_draw" = some (some (.ref Fdraw)))
    (l_draw : K.lookup Fdraw = some ⟨oc_draw, od_draw, .func (PySem.W.fnOf "_law_draw" "_law_draw" (defArgs K3.sDraw) (defBody K3.sDraw) (defScope K3.sDraw) .none kV_draw dc_draw pm_draw an_draw cd_draw ct_draw), sl_draw⟩)
    (c_draw : PySem.W.codeIn K cd_draw "_law_draw" = true)
    (k_draw : PySem.W.keepIn K (.ref Fdraw) = true)
    (a_same : PySem.W.nsIn K mainGlobals "_law_same" = some (some (.ref Fsame)))
    (l_same : K.lookup Fsame = some ⟨oc_same, od_same, .func (PySem.W.fnOf "_law_same" "_law_same" (defArgs K3.sSame) (defBody K3.sSame) (defScope K3.sSame) .none kV_same dc_same pm_same an_same cd_same ct_same), sl_same⟩)
    (c_same : PySem.W.codeIn K cd_same "_law_same" = true)
    (k_same : PySem.W.keepIn K (.ref Fsame) = true)
    (a_signs : PySem.W.nsIn K mainGlobals "_law_signs" = some (some (.ref Fsigns)))
    (l_signs : K.lookup Fsigns = some ⟨oc_signs, od_signs, .func (PySem.W.fnOf "_law_signs" "_law_signs" (defArgs K3.sSigns) (defBody K3.sSigns) (defScope K3.sSigns) .none kV_signs dc_signs pm_signs an_signs cd_signs ct_signs), sl_signs⟩)
    (c_signs : PySem.W.codeIn K cd_signs "_law_signs" = true)
    (k_signs : PySem.W.keepIn K (.ref Fsigns) = true)
    (a_factor : PySem.W.nsIn K mainGlobals "_law_factor" = some (some (.ref Ffactor)))
    (l_factor : K.lookup Ffactor = some ⟨oc_factor, od_factor, .func (PySem.W.fnOf "_law_factor" "_law_factor" (defArgs K3.sFactor) (defBody K3.sFactor) (defScope K3.sFactor) .none kV_factor dc_factor pm_factor an_factor cd_factor ct_factor), sl_factor⟩)
    (c_factor : PySem.W.codeIn K cd_factor "_law_factor" = true)
    (k_factor : PySem.W.keepIn K (.ref Ffactor) = true)
    (a_table : PySem.W.nsIn K mainGlobals "_law_table" = some (some (.ref Ftable)))
    (l_table : K.lookup Ftable = some ⟨oc_table, od_table, .func (PySem.W.fnOf "_law_table" "_law_table" (defArgs K3.sTable) (defBody K3.sTable) (defScope K3.sTable) .none kV_table dc_table pm_table an_table cd_table ct_table), sl_table⟩)
    (c_table : PySem.W.codeIn K cd_table "_law_table" = true)
    (k_table : PySem.W.keepIn K (.ref Ftable) = true)
    (a_polyt : PySem.W.nsIn K mainGlobals "_law_poly" = some (some (.ref Fpolyt)))
    (l_polyt : K.lookup Fpolyt = some ⟨oc_polyt, od_polyt, .func (PySem.W.fnOf "_law_poly" "_law_poly" (defArgs K3.sPolyT) (defBody K3.sPolyT) (defScope K3.sPolyT) .none kV_polyt dc_polyt pm_polyt an_polyt cd_polyt ct_polyt), sl_polyt⟩)
    (c_polyt : PySem.W.codeIn K cd_polyt "_law_poly" = true)
    (k_polyt : PySem.W.keepIn K (.ref Fpolyt) = true)
    (a_hand : PySem.W.nsIn K mainGlobals "_law_handed" = some (some (.ref Fhand)))
    (l_hand : K.lookup Fhand = some ⟨oc_hand, od_hand, .func (PySem.W.fnOf "_law_handed" "_law_handed" (defArgs K3.sHand) (defBody K3.sHand) (defScope K3.sHand) .none kV_hand dc_hand pm_hand an_hand cd_hand ct_hand), sl_hand⟩)
    (c_hand : PySem.W.codeIn K cd_hand "_law_handed" = true)
    (k_hand : PySem.W.keepIn K (.ref Fhand) = true)
    (a_div : PySem.W.nsIn K mainGlobals "_law_divisor" = some (some (.ref Fdiv)))
    (l_div : K.lookup Fdiv = some ⟨oc_div, od_div, .func (PySem.W.fnOf "_law_divisor" "_law_divisor" (defArgs K5.sDiv) (defBody K5.sDiv) (defScope K5.sDiv) .none kV_div dc_div pm_div an_div cd_div ct_div), sl_div⟩)
    (c_div : PySem.W.codeIn K cd_div "_law_divisor" = true)
    (k_div : PySem.W.keepIn K (.ref Fdiv) = true)
    (a_llow : PySem.W.nsIn K mainGlobals "_law_lowest" = some (some (.ref Fllow)))
    (l_llow : K.lookup Fllow = some ⟨oc_llow, od_llow, .func (PySem.W.fnOf "_law_lowest" "_law_lowest" (defArgs K5.sLLow) (defBody K5.sLLow) (defScope K5.sLLow) .none kV_llow dc_llow pm_llow an_llow cd_llow ct_llow), sl_llow⟩)
    (c_llow : PySem.W.codeIn K cd_llow "_law_lowest" = true)
    (k_llow : PySem.W.keepIn K (.ref Fllow) = true)
    (a_frac : PySem.W.nsIn K mainGlobals "_law_fraction" = some (some (.ref Ffrac)))
    (l_frac : K.lookup Ffrac = some ⟨oc_frac, od_frac, .func (PySem.W.fnOf "_law_fraction" "_law_fraction" (defArgs K5.sFrac) (defBody K5.sFrac) (defScope K5.sFrac) .none kV_frac dc_frac pm_frac an_frac cd_frac ct_frac), sl_frac⟩)
    (c_frac : PySem.W.codeIn K cd_frac "_law_fraction" = true)
    (k_frac : PySem.W.keepIn K (.ref Ffrac) = true)
    (a_own : PySem.W.nsIn K mainGlobals "_law_own_raised" = some (some (.ref Fown)))
    (l_own : K.lookup Fown = some ⟨oc_own, od_own, .func (PySem.W.fnOf "_law_own_raised" "_law_own_raised" (defArgs K5.sOwn) (defBody K5.sOwn) (defScope K5.sOwn) .none kV_own dc_own pm_own an_own cd_own ct_own), sl_own⟩)
    (c_own : PySem.W.codeIn K cd_own "_law_own_raised" = true)
    (k_own : PySem.W.keepIn K (.ref Fown) = true)
    (a_reck : PySem.W.nsIn K mainGlobals "_law_reckoned" = some (some (.ref Freck)))
    (l_reck : K.lookup Freck = some ⟨oc_reck, od_reck, .func (PySem.W.fnOf "_law_reckoned" "_law_reckoned" (defArgs K5.sReck) (defBody K5.sReck) (defScope K5.sReck) .none kV_reck dc_reck pm_reck an_reck cd_reck ct_reck), sl_reck⟩)
    (c_reck : PySem.W.codeIn K cd_reck "_law_reckoned" = true)
    (k_reck : PySem.W.keepIn K (.ref Freck) = true)
    (a_pairs : PySem.W.nsIn K mainGlobals "_law_pairs" = some (some (.ref Fpairs)))
    (l_pairs : K.lookup Fpairs = some ⟨oc_pairs, od_pairs, .func (PySem.W.fnOf "_law_pairs" "_law_pairs" (defArgs K5.sPairs) (defBody K5.sPairs) (defScope K5.sPairs) .none kV_pairs dc_pairs pm_pairs an_pairs cd_pairs ct_pairs), sl_pairs⟩)
    (c_pairs : PySem.W.codeIn K cd_pairs "_law_pairs" = true)
    (k_pairs : PySem.W.keepIn K (.ref Fpairs) = true)
    (a_names : PySem.W.nsIn K mainGlobals "_law_names" = some (some (.ref Fnames)))
    (l_names : K.lookup Fnames = some ⟨oc_names, od_names, .func (PySem.W.fnOf "_law_names" "_law_names" (defArgs K5.sNamesP) (defBody K5.sNamesP) (defScope K5.sNamesP) .none kV_names dc_names pm_names an_names cd_names ct_names), sl_names⟩)
    (c_names : PySem.W.codeIn K cd_names "_law_names" = true)
    (k_names : PySem.W.keepIn K (.ref Fnames) = true)
    (a_lack : PySem.W.nsIn K mainGlobals "_law_lacking_right" = some (some (.ref Flack)))
    (l_lack : K.lookup Flack = some ⟨oc_lack, od_lack, .func (PySem.W.fnOf "_law_lacking_right" "_law_lacking_right" (defArgs K5.sLack) (defBody K5.sLack) (defScope K5.sLack) .none kV_lack dc_lack pm_lack an_lack cd_lack ct_lack), sl_lack⟩)
    (c_lack : PySem.W.codeIn K cd_lack "_law_lacking_right" = true)
    (k_lack : PySem.W.keepIn K (.ref Flack) = true)
    (a_drawn : PySem.W.nsIn K mainGlobals "_law_drawn" = some (some (.ref Fdrawn)))
    (l_drawn : K.lookup Fdrawn = some ⟨oc_drawn, od_drawn, .func (PySem.W.fnOf "_law_drawn" "_law_drawn" (defArgs K5.sDrawn) (defBody K5.sDrawn) (defScope K5.sDrawn) .none kV_drawn dc_drawn pm_drawn an_drawn cd_drawn ct_drawn), sl_drawn⟩)
    (c_drawn : PySem.W.codeIn K cd_drawn "_law_drawn" = true)
    (k_drawn : PySem.W.keepIn K (.ref Fdrawn) = true)
    (a_two : PySem.W.nsIn K mainGlobals "_law_two_right" = some (some (.ref Ftwo)))
    (l_two : K.lookup Ftwo = some ⟨oc_two, od_two, .func (PySem.W.fnOf "_law_two_right" "_law_two_right" (defArgs K5.sTwo) (defBody K5.sTwo) (defScope K5.sTwo) .none kV_two dc_two pm_two an_two cd_two ct_two), sl_two⟩)
    (c_two : PySem.W.codeIn K cd_two "_law_two_right" = true)
    (k_two : PySem.W.keepIn K (.ref Ftwo) = true)
    (a_law : PySem.W.nsIn K mainGlobals "law" = some (some (.ref Flaw)))
    (l_law : K.lookup Flaw = some ⟨oc_law, od_law, .func (PySem.W.fnOf "law" "law" (defArgs K5.sLaw) (defBody K5.sLaw) (defScope K5.sLaw) .none kV_law dc_law pm_law an_law cd_law ct_law), sl_law⟩)
    (c_law : PySem.W.codeIn K cd_law "law" = true)
    (k_law : PySem.W.keepIn K (.ref Flaw) = true)
    (a_roomy : PySem.W.nsIn K mainGlobals "roomy_fields" = some (some (.ref Froomy)))
    (l_roomy : K.lookup Froomy = some ⟨oc_roomy, od_roomy, .func (PySem.W.fnOf "roomy_fields" "roomy_fields" (defArgs sRoomy) (defBody sRoomy) (defScope sRoomy) .none kV_roomy dc_roomy pm_roomy an_roomy (.ref cR) ct_roomy), sl_roomy⟩)
    (c_roomy : PySem.W.codeIn K (.ref cR) "roomy_fields" = true)
    (k_roomy : PySem.W.keepIn K (.ref Froomy) = true)
    (aMost : PySem.W.nsIn K mainGlobals "MOST_TERMS" = some (some (.int 2000 tMost)))
    (aRows : PySem.W.nsIn K mainGlobals "ROWS_BETWEEN" = some (some (.int 64 tRows)))
    (z_len : PySem.W.nsIn K mainGlobals "len" = some none)
    (z_int : PySem.W.nsIn K mainGlobals "int" = some none)
    (z_abs : PySem.W.nsIn K mainGlobals "abs" = some none)
    (z_max : PySem.W.nsIn K mainGlobals "max" = some none)
    (z_list : PySem.W.nsIn K mainGlobals "list" = some none)
    (z_isinstance : PySem.W.nsIn K mainGlobals "isinstance" = some none)
    (z_range : PySem.W.nsIn K mainGlobals "range" = some none)
    (z_tuple : PySem.W.nsIn K mainGlobals "tuple" = some none)
    (z_str : PySem.W.nsIn K mainGlobals "str" = some none)
    (z_bool : PySem.W.nsIn K mainGlobals "bool" = some none)
    (z_any : PySem.W.nsIn K mainGlobals "any" = some none)
    (z_sorted : PySem.W.nsIn K mainGlobals "sorted" = some none)
    (z_sum : PySem.W.nsIn K mainGlobals "sum" = some none)
    (z_enumerate : PySem.W.nsIn K mainGlobals "enumerate" = some none)
    (z_divmod : PySem.W.nsIn K mainGlobals "divmod" = some none)
    (z_min : PySem.W.nsIn K mainGlobals "min" = some none)
    (z_dict : PySem.W.nsIn K mainGlobals "dict" = some none)
    (a0 : PySem.W.nsIn K mainGlobals "NothingThere" = some (some (.ref C)))
    (x0 : K.lookup C = some (excClassObj nm0 q0 C N0 bs0 [.ref B, .type "Exception", .type "BaseException", .type "object"] true sn0 sub0 ab0 col0 dd0 m0a m0b m0c m0d m0e "Exception.__new__"))
    (s0 : PySem.W.findIn K (.ref C) "__setattr__" = some (some (.builtin "object.__setattr__")))
    (g0 : PySem.W.findIn K (.ref C) "__getattribute__" = some (some (.builtin "BaseException.__getattribute__")))
    (h0 : PySem.W.findIn K (.ref C) "__getattr__" = some none)
    (n0 : PySem.W.findIn K (.ref C) "word" = some none)
    (c0 : PySem.W.findIn K (.ref C) "__class__" = some (some (.builtin "object.__class__")))
    (i0 : PySem.W.findIn K (.ref C) "__init__" = some (some (.ref f0)))
    (t0 : PySem.W.typeIn K (.ref f0) = some (.type "function"))
    (l0 : K.lookup f0 = some ⟨oc0, od0, .func (PySem.W.fnOf "__init__" "NothingThere.__init__" (defArgs K5.sThere) (defBody K5.sThere) (defScope K5.sThere) .none kV0 dc0 pm0 an0 cd0 ct0), sl0⟩)
    (d0 : PySem.W.codeIn K cd0 "NothingThere.__init__" = true)
    (k0 : PySem.W.keepIn K (.ref f0) = true)
    (kk0 : PySem.W.keepIn K (.ref C) = true)
    (T0 : PySem.W.typeIn K (.ref C) = some (.type "type"))
    (aB : PySem.W.nsIn K mainGlobals "FigureError" = some (some (.ref B)))
    (xB : PySem.W.isClsIn K B = true)
    (gB : PySem.W.specialIn K (.ref B) "__getattribute__" = some (some (.builtin "type.__getattribute__")))
    (rB : PySem.W.readsIn (mc := .type "type") K B = true)
    (iB : PySem.W.findCls K (.ref B) (.type "type") "__init__" = some (.val (.builtin "Exception.__init__")))
    (tB : PySem.W.typeIn K (.ref B) = some (.type "type"))
    (oG : PySem.W.specialIn K (.builtin "object.__class__") "__get__" = some (some (.builtin "getset_descriptor.__get__")))
    (oT : PySem.W.takesIn K (.builtin "object.__class__") = some true)
    (aM : PySem.W.nsIn K mainGlobals "TooMany" = some (some (.ref M)))
    (xM : PySem.W.isClsIn K M = true)
    (tM : PySem.W.typeIn K (.ref M) = some (.type "type"))
    (nMC : PySem.W.subIn K (.ref C) (.ref M) = some false)
    (nMD : C ≠ M)
    (a_gcd : PySem.W.nsIn K mainGlobals "gcd" = some (some (.builtin "math.gcd"))) :
    ∃ fd : FuncData, (∀ (s : Shared) (v : Value), BindsTo s fd ⟨[v], []⟩ [("script", v)]) ∧ ∀ base : Heap, K.In base → base.Ns mainGlobals mg → TabB base mg cR Pt → FnOk l.prog w K mg base CX0 8 fa fd ["script"] (K5.spLaw K Pt) := by
  have e := hfa.symm.trans (PySem.W.mg_of X G a_law)
  cases e
  have Qlow := fun_mk (st := K5.sLow) l_low c_low k_low
  have blow := Qlow.binds (ps := ["n", "d"]) fun _ _ _ _ _ _ us hl => match us, hl with | [_, _], _ => rfl
  have mlow := PySem.W.mg_of X G a_low
  have Qpowers := fun_mk (st := K5.sPowers) l_powers c_powers k_powers
  have bpowers := Qpowers.binds (ps := ["base", "most"]) fun _ _ _ _ _ _ us hl => match us, hl with | [_, _], _ => rfl
  have mpowers := PySem.W.mg_of X G a_powers
  have Qval := fun_mk (st := K5.sVal) l_val c_val k_val
  have bval := Qval.binds (ps := ["p", "pairs"]) fun _ _ _ _ _ _ us hl => match us, hl with | [_, _], _ => rfl
  have mval := PySem.W.mg_of X G a_val
  have Qvars := fun_mk (st := sVars) l_vars c_vars k_vars
  have bvars := Qvars.binds (ps := ["p"]) fun _ _ _ _ _ _ us hl => match us, hl with | [_], _ => rfl
  have mvars := PySem.W.mg_of X G a_vars
  have Qplus := fun_mk (st := K1P.sPlus) l_plus c_plus k_plus
  have bplus := Qplus.binds (ps := ["p", "q"]) fun _ _ _ _ _ _ us hl => match us, hl with | [_, _], _ => rfl
  have mplus := PySem.W.mg_of X G a_plus
  have Qmost := fun_mk (st := sMost) l_most c_most k_most
  have bmost := Qmost.binds (ps := ["p", "q", "most"]) fun _ _ _ _ _ _ us hl => match us, hl with | [_, _, _], _ => rfl
  have mmost := PySem.W.mg_of X G a_most
  have Qrow := fun_mk (st := sRow) l_row c_row k_row
  have brow := Qrow.binds (ps := ["out", "key", "many", "columns"]) fun _ _ _ _ _ _ us hl => match us, hl with | [_, _, _, _], _ => rfl
  have mrow := PySem.W.mg_of X G a_row
  have Qcount := fun_mk (st := sCount) l_count c_count k_count
  have bcount := Qcount.binds (ps := ["table", "bound"]) fun _ _ _ _ _ _ us hl => match us, hl with | [_, _], _ => rfl
  have mcount := PySem.W.mg_of X G a_count
  have Qdeg := fun_mk (st := sDeg) l_deg c_deg k_deg
  have bdeg := Qdeg.binds (ps := ["p"]) fun _ _ _ _ _ _ us hl => match us, hl with | [_], _ => rfl
  have mdeg := PySem.W.mg_of X G a_deg
  have Qgrt := fun_mk (st := sGreatest) l_grt c_grt k_grt
  have bgrt := Qgrt.binds (ps := ["p"]) fun _ _ _ _ _ _ us hl => match us, hl with | [_], _ => rfl
  have mgrt := PySem.W.mg_of X G a_grt
  have Qadded := fun_mk (st := K1P.sAdded) l_added c_added k_added
  have badded := Qadded.binds (ps := ["p", "q"]) fun _ _ _ _ _ _ us hl => match us, hl with | [_, _], _ => rfl
  have madded := PySem.W.mg_of X G a_added
  have Qmul := fun_mk (st := sMul) l_mul c_mul k_mul
  have bmul := Qmul.binds (ps := ["p", "q"]) fun _ _ _ _ _ _ us hl => match us, hl with | [_, _], _ => rfl
  have mmul := PySem.W.mg_of X G a_mul
  have Qchk := fun_mk (st := K1P.sCheck) l_chk c_chk k_chk
  have bchk := Qchk.binds (ps := ["table"]) fun _ _ _ _ _ _ us hl => match us, hl with | [_], _ => rfl
  have mchk := PySem.W.mg_of X G a_chk
  have Qtoldf := fun_mk (st := sToldF) l_toldf c_toldf k_toldf
  have btoldf := Qtoldf.binds (ps := ["table", "fields"]) fun _ _ _ _ _ _ us hl => match us, hl with | [_, _], _ => rfl
  have mtoldf := PySem.W.mg_of X G a_toldf
  have Qby := fun_mk (st := K1P.sBy) l_by c_by k_by
  have bby := Qby.binds (ps := ["p"]) fun _ _ _ _ _ _ us hl => match us, hl with | [_], _ => rfl
  have mby := PySem.W.mg_of X G a_by
  have Qof := fun_mk (st := K1P.sOf) l_of c_of k_of
  have bof := Qof.binds (ps := ["table"]) fun _ _ _ _ _ _ us hl => match us, hl with | [_], _ => rfl
  have mof := PySem.W.mg_of X G a_of
  have Qtape := fun_mk (st := K3.sTape) l_tape c_tape k_tape
  have btape := Qtape.binds (ps := ["script"]) fun _ _ _ _ _ _ us hl => match us, hl with | [_], _ => rfl
  have mtape := PySem.W.mg_of X G a_tape
  have Qload := fun_mk (st := K3.sLoad) l_load c_load k_load
  have bload := Qload.binds (ps := ["tape"]) fun _ _ _ _ _ _ us hl => match us, hl with | [_], _ => rfl
  have mload := PySem.W.mg_of X G a_load
  have Qdraw := fun_mk (st := K3.sDraw) l_draw c_draw k_draw
  have bdraw := Qdraw.binds (ps := ["tape", "many"]) fun _ _ _ _ _ _ us hl => match us, hl with | [_, _], _ => rfl
  have mdraw := PySem.W.mg_of X G a_draw
  have Qsame := fun_mk (st := K3.sSame) l_same c_same k_same
  have bsame := Qsame.binds (ps := ["actual", "due"]) fun _ _ _ _ _ _ us hl => match us, hl with | [_, _], _ => rfl
  have msame := PySem.W.mg_of X G a_same
  have Qsigns := fun_mk (st := K3.sSigns) l_signs c_signs k_signs
  have bsigns := Qsigns.binds (ps := ["tape"]) fun _ _ _ _ _ _ us hl => match us, hl with | [_], _ => rfl
  have msigns := PySem.W.mg_of X G a_signs
  have Qfactor := fun_mk (st := K3.sFactor) l_factor c_factor k_factor
  have bfactor := Qfactor.binds (ps := ["tape", "great"]) fun _ _ _ _ _ _ us hl => match us, hl with | [_, _], _ => rfl
  have mfactor := PySem.W.mg_of X G a_factor
  have Qtable := fun_mk (st := K3.sTable) l_table c_table k_table
  have btable := Qtable.binds (ps := ["tape", "signs", "terms", "height", "great"]) fun _ _ _ _ _ _ us hl => match us, hl with | [_, _, _, _, _], _ => rfl
  have mtable := PySem.W.mg_of X G a_table
  have Qpolyt := fun_mk (st := K3.sPolyT) l_polyt c_polyt k_polyt
  have bpolyt := Qpolyt.binds (ps := ["table"]) fun _ _ _ _ _ _ us hl => match us, hl with | [_], _ => rfl
  have mpolyt := PySem.W.mg_of X G a_polyt
  have Qhand := fun_mk (st := K3.sHand) l_hand c_hand k_hand
  have bhand := Qhand.binds (ps := ["tape", "poly"]) fun _ _ _ _ _ _ us hl => match us, hl with | [_, _], _ => rfl
  have mhand := PySem.W.mg_of X G a_hand
  have Qdiv := fun_mk (st := K5.sDiv) l_div c_div k_div
  have bdiv := Qdiv.binds (ps := ["one", "two"]) fun _ _ _ _ _ _ us hl => match us, hl with | [_, _], _ => rfl
  have mdiv := PySem.W.mg_of X G a_div
  have Qllow := fun_mk (st := K5.sLLow) l_llow c_llow k_llow
  have bllow := Qllow.binds (ps := ["top", "bottom"]) fun _ _ _ _ _ _ us hl => match us, hl with | [_, _], _ => rfl
  have mllow := PySem.W.mg_of X G a_llow
  have Qfrac := fun_mk (st := K5.sFrac) l_frac c_frac k_frac
  have bfrac := Qfrac.binds (ps := ["tape"]) fun _ _ _ _ _ _ us hl => match us, hl with | [_], _ => rfl
  have mfrac := PySem.W.mg_of X G a_frac
  have Qown := fun_mk (st := K5.sOwn) l_own c_own k_own
  have bown := Qown.binds (ps := ["number", "exponent"]) fun _ _ _ _ _ _ us hl => match us, hl with | [_, _], _ => rfl
  have mown := PySem.W.mg_of X G a_own
  have Qreck := fun_mk (st := K5.sReck) l_reck c_reck k_reck
  have breck := Qreck.binds (ps := ["poly", "spot"]) fun _ _ _ _ _ _ us hl => match us, hl with | [_, _], _ => rfl
  have mreck := PySem.W.mg_of X G a_reck
  have Qpairs := fun_mk (st := K5.sPairs) l_pairs c_pairs k_pairs
  have bpairs := Qpairs.binds (ps := ["tape", "names", "spot"]) fun _ _ _ _ _ _ us hl => match us, hl with | [_, _, _], _ => rfl
  have mpairs := PySem.W.mg_of X G a_pairs
  have Qnames := fun_mk (st := K5.sNamesP) l_names c_names k_names
  have bnames := Qnames.binds (ps := ["poly"]) fun _ _ _ _ _ _ us hl => match us, hl with | [_], _ => rfl
  have mnames := PySem.W.mg_of X G a_names
  have Qlack := fun_mk (st := K5.sLack) l_lack c_lack k_lack
  have black := Qlack.binds (ps := ["tape", "poly", "names", "spot"]) fun _ _ _ _ _ _ us hl => match us, hl with | [_, _, _, _], _ => rfl
  have mlack := PySem.W.mg_of X G a_lack
  have Qdrawn := fun_mk (st := K5.sDrawn) l_drawn c_drawn k_drawn
  have bdrawn := Qdrawn.binds (ps := ["tape", "signs"]) fun _ _ _ _ _ _ us hl => match us, hl with | [_, _], _ => rfl
  have mdrawn := PySem.W.mg_of X G a_drawn
  have Qtwo := fun_mk (st := K5.sTwo) l_two c_two k_two
  have btwo := Qtwo.binds (ps := ["tape", "signs", "spot", "one", "two"]) fun _ _ _ _ _ _ us hl => match us, hl with | [_, _, _, _, _], _ => rfl
  have mtwo := PySem.W.mg_of X G a_two
  have Qlaw := fun_mk (st := K5.sLaw) l_law c_law k_law
  have Qfinit := fun_mk (st := sFInit) l_finit c_finit k_finit
  have bfinit := Qfinit.binds (ps := ["self", "names", "radix"]) fun _ _ _ _ _ _ us hl => match us, hl with | [_, _, _], _ => rfl
  have Qpacked := fun_mk (st := sPacked) l_packed c_packed k_packed
  have bpacked := Qpacked.binds (ps := ["self", "p"]) fun _ _ _ _ _ _ us hl => match us, hl with | [_, _], _ => rfl
  have Qkey := fun_mk (st := sKey) l_key c_key k_key
  have bkey := Qkey.binds (ps := ["self", "monomial"]) fun _ _ _ _ _ _ us hl => match us, hl with | [_, _], _ => rfl
  have Qtold := fun_mk (st := sTold) l_told c_told k_told
  have btold := Qtold.binds (ps := ["self", "table"]) fun _ _ _ _ _ _ us hl => match us, hl with | [_, _], _ => rfl
  have Qmono := fun_mk (st := sMono) l_mono c_mono k_mono
  have bmono := Qmono.binds (ps := ["self", "key"]) fun _ _ _ _ _ _ us hl => match us, hl with | [_, _], _ => rfl
  have Qroomy : FunC K "roomy_fields" "roomy_fields" sRoomy Froomy _ cR := ⟨⟨_, _, _, _, _, _, _, _, rfl, l_roomy, c_roomy⟩⟩
  have broomy : Binds K _ ["polys", "greatest"] [] := (fun_mk (st := sRoomy) l_roomy c_roomy k_roomy).binds (ps := ["polys", "greatest"]) fun _ _ _ _ _ _ us hl => match us, hl with | [_, _], _ => rfl
  have mroomy := PySem.W.mg_of X G a_roomy
  refine ⟨PySem.W.fnOf "law" "law" (defArgs K5.sLaw) (defBody K5.sLaw) (defScope K5.sLaw) .none kV_law dc_law pm_law an_law cd_law ct_law, fun s v => .of_eq rfl, fun base _ _ TB => ?_⟩
  have mz : ∀ {x : Str}, PySem.W.nsIn K mainGlobals x = some none → mg x = none := fun q => PySem.W.mg_none_of X G q
  have tm := PySem.W.mg_of X G aMost
  have TM : LimTxt K mg := ⟨mz z_len, mz z_any, mz z_abs, mz z_tuple, mz z_sorted, ⟨_, tm⟩, great⟩
  have FT : FldTxt K mg CF := ⟨⟨F_pg, F_hd, F_po, F_sa⟩, F_nN, F_nW, F_nP, PySem.W.mg_of X G a_F, mz z_list, mz z_enumerate, mz z_sum, mz z_tuple, mz z_sorted, mz z_len, mz z_divmod⟩
  -- tables
  have Grow := ok_row (P := l.prog) (w := w) (mg := mg) (base := base) Qrow
  have TR : RowTxt l.prog w K mg base Frow _ := ⟨Grow, brow, mrow, k_row, mz z_len, mz z_list⟩
  have Gcnt := ok_count (P := l.prog) (w := w) (base := base) Qcount (mz z_len)
  have Gmst := ok_most Qmost ⟨Gcnt, bcount, mcount, k_count, Grow, brow, mrow, k_row, mz z_len, mz z_sorted, mz z_enumerate, ⟨_, PySem.W.mg_of X G aRows⟩⟩
  have Gdeg := ok_deg (P := l.prog) (w := w) (base := base) Qdeg ⟨mz z_max, mz z_list⟩
  have TD : DegsTxt l.prog w K mg base Fdeg _ := ⟨Gdeg, bdeg, mdeg, k_deg⟩
  have CDeg : CallT l.prog w K mg base CX0 1 "degrees" ["p"] (spDeg K) Fdeg _ := ⟨Gdeg, bdeg, mdeg, k_deg⟩
  have Ggrt := ok_greatest Qgrt ⟨mz z_max, mz z_list⟩ TD
  -- Fields
  have Gfin := ok_finit (P := l.prog) (w := w) (base := base) Qfinit FT
  have Gkey := ok_key (P := l.prog) (w := w) (base := base) Qkey FT
  have Gpac := ok_packed Qpacked FT ⟨Gkey, bkey, ⟨a_key, f_key, k_key⟩⟩
  have Gmon := K2P.ok_mono (P := l.prog) (w := w) (base := base) Qmono FT
  have Gtol := ok_told Qtold FT ⟨Gmon, bmono, ⟨a_mono, f_mono, k_mono⟩⟩
  have Groo := ok_roomy Qroomy FT TD ⟨⟨F_mk, a_finit, f_finit, F_kp⟩, Gfin, bfinit⟩ TB
  -- polys
  have Glim := ok_lim (P := l.prog) (w := w) (base := base) Qchk TM
  have Mto : MethT l.prog w K mg base CF 2 "told" ["self", "table"] (spTold K CF) Ftold _ := ⟨Gtol, btold, ⟨a_told, f_told, k_told⟩⟩
  have Mpa : MethT l.prog w K mg base CF 2 "packed" ["self", "p"] (spPacked K CF) Fpacked _ := ⟨Gpac, bpacked, ⟨a_packed, f_packed, k_packed⟩⟩
  have Gtf := ok_toldF Qtoldf FT ⟨Glim, bchk, mchk, k_chk⟩ Mto
  have CR : CallT l.prog w K mg base CX0 3 "roomy_fields" ["polys", "greatest"] (spRoomy K CF Pt) Froomy _ := ⟨Groo, broomy, mroomy, k_roomy⟩
  have CD : CallT l.prog w K mg base CX0 2 "greatest_exponent" ["p"] (spGreatest K) Fgrt _ := ⟨Ggrt, bgrt, mgrt, k_grt⟩
  have CM' : CallT l.prog w K mg base CX0 2 "times_at_most" ["p", "q", "most"] spMost Fmost _ := ⟨Gmst, bmost, mmost, k_most⟩
  have CW : CallT l.prog w K mg base CX0 3 "_told" ["table", "fields"] (spToldF K CF) Ftoldf _ := ⟨Gtf, btoldf, mtoldf, k_toldf⟩
  have Gmul := ok_mulG Qmul FT CR CD CM' Mpa CW ⟨_, tm⟩
  have CMul : CallT l.prog w K mg base CX0 4 "multiplied" ["p", "q"] (spMulG K Pt) Fmul _ := ⟨Gmul, bmul, mmul, k_mul⟩
  have Gplu := K1P.ok_plus (P := l.prog) (w := w) (mg := mg) (base := base) Qplus
  have Gchk := K1P.ok_check (P := l.prog) (w := w) (base := base) Qchk TM
  have Gof := K1P.ok_of Qof TM Gchk bchk mchk k_chk
  have Gby := ok_byB (P := l.prog) (w := w) (base := base) Qby (mz z_tuple)
  have AT : AddTB l.prog w K mg base Fby Fplus Fof _ _ _ := ⟨⟨Gby, bby, mby, k_by⟩, ⟨Gplu, bplus, mplus, k_plus⟩, ⟨Gof, bof, mof, k_of⟩⟩
  have Gadd := ok_addB Qadded AT
  have CAdd : CallT l.prog w K mg base CX0 3 "added" ["p", "q"] (spAddB K) Fadded _ := ⟨Gadd, badded, madded, k_added⟩
  have E0 : ClsFacts K B C f0 "NothingThere" "word" := ⟨a0, ⟨_, _, _, _, _, _, _, _, _, _, _, _, _, _, x0⟩, s0, g0, h0, n0, c0, i0, t0, kk0, T0⟩
  have F0 := fun_mk (st := K5.sThere) l0 d0 k0
  have b0 := F0.binds (ps := ["self", "word"]) fun _ _ _ _ _ _ us hl => match us, hl with | [_, _], _ => rfl
  have clB : (PySem.W.clsIn K B).isSome = true := xB
  have mB := PySem.W.mg_of X G aB
  have clC : (PySem.W.clsIn K C).isSome = true := by
    obtain ⟨cd, q, _⟩ := E0.cls
    rw [q]
    rfl
  have U : K5.ThereTxt l.prog w K mg base B C f0 _ := ⟨PySem.W.mg_of X G a0, E0.err, i0, t0, n0, b0, K5.iniThere F0 ⟨gB, rB, iB⟩ mB, mB,
    exm_of_cls E0.err.exC clC T0 ((E0.sub _).trans (by simp [line])), kit_of_cls clB tB ((E0.sub _).trans (by simp [line])) (fun _ => rfl), E0.ask oG oT, E0.xf⟩
  have kitM : PySem.W.kitOne K (.ref C) (.ref M) = some false := kit_of_cls xM tM nMC (fun e => absurd e nMD)
  -- the tape
  have TT : K3.TapeTxt K mg Fload := ⟨mz z_len, mz z_int, mz z_abs, mz z_list, mz z_range, mload, k_load⟩
  have Gtp := K3.ok_tape (P := l.prog) (w := w) (base := base) Qtape TT
  have Gld := K3.ok_load (P := l.prog) (w := w) (base := base) Qload TT
  have Gdr := K3.ok_draw Qdraw TT Gld bload
  have CDr : CallT l.prog w K mg base CX0 2 "_law_draw" ["tape", "many"] K3.spDraw Fdraw _ := ⟨Gdr, bdraw, mdraw, k_draw⟩
  have DT : K3.DrawTxt l.prog w K mg base Fdraw _ := ⟨CDr, mz z_range, mz z_list, mz z_tuple, mz z_sorted, mz z_len⟩
  have Gsi := K3.ok_signs Qsigns DT
  have Gfa := K3.ok_factor Qfactor DT
  have Gta := K3.ok_table (w := w) Qtable DT ⟨Gfa, bfactor, mfactor, k_factor⟩
  have Gpo := K3.ok_polyT (w := w) Qpolyt DT
  have Gha := K3.ok_hand Qhand DT
  have CHa : CallT l.prog w K mg base CX0 3 "_law_handed" ["tape", "poly"] (K3.spHand K) Fhand _ := ⟨Gha, bhand, mhand, k_hand⟩
  have ST : K3.SameTxt K mg Fsame := ⟨mz z_isinstance, mz z_tuple, mz z_list, mz z_str, mz z_bool, mz z_int, mz z_len, mz z_range, msame, k_same⟩
  have Gs0 := K3.ok_same0 (P := l.prog) (w := w) (base := base) Qsame ST
  have Gsa : FnOk l.prog w K mg base CX0 2 Fsame _ ["actual", "due"] (K3.spSame 1) := K3.ok_sameS Qsame bsame ST Gs0
  have CSa : CallT l.prog w K mg base CX0 2 "_law_same" ["actual", "due"] (K3.spSame 1) Fsame _ := ⟨Gsa, bsame, msame, k_same⟩
  have Gvrs := ok_vars Qvars CDeg (mz z_tuple) (mz z_sorted)
  have CVr : CallT l.prog w K mg base CX0 2 "variables" ["p"] (spVars K) Fvars _ := ⟨Gvrs, bvars, mvars, k_vars⟩
  have Glw := K5.ok_low (P := l.prog) (w := w) (base := base) Qlow (PySem.W.mg_of X G a_gcd)
  have Gpw := K5.ok_powers (P := l.prog) (w := w) (base := base) Qpowers (mz z_range)
  have VT : K5.ValTxt l.prog w K mg base Fdeg Fpowers Flow _ _ _ := ⟨CDeg, ⟨Gpw, bpowers, mpowers, k_powers⟩, ⟨Glw, blow, mlow, k_low⟩, mz z_sorted⟩
  have CVa : CallT l.prog w K mg base CX0 2 "value" ["p", "pairs"] (K5.spVal K) Fval _ := ⟨K5.ok_val Qval VT, bval, mval, k_val⟩
  have CVb : CallT l.prog w K mg base (L2N.CX l.prog w) 3 "value" ["p", "pairs"] (K5.spValB K C) Fval _ := ⟨K5.ok_valB Qval VT U, bval, mval, k_val⟩
  have Gdv := K5.ok_div (P := l.prog) (w := w) (base := base) Qdiv (mz z_max) (mz z_range) (mz z_int)
  have Gll := K5.ok_llow Qllow ⟨Gdv, bdiv, mdiv, k_div⟩
  have CLl : CallT l.prog w K mg base CX0 2 "_law_lowest" ["top", "bottom"] K5.spLow Fllow _ := ⟨Gll, bllow, mllow, k_llow⟩
  have Gow := K5.ok_own (P := l.prog) (w := w) (base := base) Qown (mz z_range)
  have Gfr := K5.ok_frac Qfrac DT CLl
  have Grk := K5.ok_reck Qreck ⟨Gow, bown, mown, k_own⟩ CLl (mz z_max) (mz z_dict)
  have CRk : CallT l.prog w K mg base CX0 3 "_law_reckoned" ["poly", "spot"] (K5.spReck K) Freck _ := ⟨Grk, breck, mreck, k_reck⟩
  have Gpr := K5.ok_pairs Qpairs DT
  have CPr : CallT l.prog w K mg base CX0 3 "_law_pairs" ["tape", "names", "spot"] (K5.spPairs K) Fpairs _ := ⟨Gpr, bpairs, mpairs, k_pairs⟩
  have Gnm := K5.ok_namesP Qnames DT
  have Gdn := K5.ok_drawn Qdrawn DT ⟨Gta, btable, mtable, k_table⟩ ⟨Gpo, bpolyt, mpolyt, k_polyt⟩ ⟨Gfa, bfactor, mfactor, k_factor⟩
  have Gtw := K5.ok_two Qtwo ⟨CAdd, CMul, CRk, CLl, CSa, CVa, CPr, CVr, mz z_list⟩
  have Glk := K5.ok_lack Qlack DT U ⟨mz z_isinstance, mz z_min, CVb, CPr, K3.ok_sameH Qsame ST, msame, k_same, bsame, PySem.W.mg_of X G aM, kitM⟩
  exact K5.ok_law Qlaw DT ⟨⟨Gtp, btape, mtape, k_tape⟩, ⟨Gsi, bsigns, msigns, k_signs⟩, ⟨Gta, btable, mtable, k_table⟩, ⟨Gpo, bpolyt, mpolyt, k_polyt⟩, ⟨Gfa, bfactor, mfactor, k_factor⟩, ⟨Gdn, bdrawn, mdrawn, k_drawn⟩, ⟨Gfr, bfrac, mfrac, k_frac⟩, ⟨Gnm, bnames, mnames, k_names⟩, CRk, CSa, CVa, kb_rev Qval (fun _ _ _ _ _ _ _ _ => rfl), CHa, CPr, ⟨Glk, black, mlack, k_lack⟩, ⟨Gtw, btwo, mtwo, k_two⟩⟩
end K5T

set_option Elab.async false
set_option linter.all false
set_option maxRecDepth 100000
set_option maxHeartbeats 2000000
namespace K5T
open PySem PySem.Spec PyProof.Rows L2 K2P
open LamX (Tabs ExtN TabB OwnTab)
theorem lookup_none : ∀ (K : PySem.W.Frag) (c : Addr), (K.map (·.1)).contains c = false → K.lookup c = none
  | [], _, _ => rfl
  | (a, o) :: K, c, h => by
    rw [List.map_cons, List.contains_cons, Bool.or_eq_false_iff] at h
    have ih := lookup_none K c h.2
    show List.lookup c ((a, o) :: K) = none
    rw [List.lookup_cons, h.1]
    exact ih
theorem walk {l : PySem.W.OpenLaw} {q : Program} {loose : List Str} {XP : (Str → Option Value) → Heap → Prop} {d : DefRec} {K : Params → PySem.W.Frag} {as ts : List Addr} {e : ∀ P, as = (K P).map (·.1)} (hn : l.most = some 63) (hdf : d.params.defaults = [])
    (hrec : ((recsOf q).any fun e => e.name == ("roomy_fields" : Str)) = true)
    (F : ∀ (w : World) (mg : Str → Option Value) (fa : Addr) (h : Heap), XP mg h → (K w.params).In h → h.Ns mainGlobals mg → mg d.name = some (.ref fa) → (∀ fr, mg "roomy_fields" = some (.ref fr) → OwnTab (K w.params) fr h) → (∀ c : Addr, as.contains c = false → (K w.params).lookup c = none) →
      ∃ (fd : FuncData) (cR Pt : Addr), (∀ (s : Shared) (u : Value), BindsTo s fd ⟨[u], []⟩ [("script", u)]) ∧ h.get? Pt = some { cls := .none, data := .fields #[] } ∧ (K w.params).lookup Pt = none ∧ PySem.W.CodeHd h cR Pt ∧
        ∀ base : Heap, (K w.params).In base → base.Ns mainGlobals mg → TabB base mg cR Pt → FnOk l.prog w (K w.params) mg base CX0 8 fa fd ["script"] (K5.spLaw (K w.params) Pt)) :
    PySem.W.WalkO q loose XP (PySem.W.kmHook K as e ts).says l.row.toRowW d [] (fun f vs => PySem.call f vs) := by
  refine Att.attach_callB hn hdf fun w s₀ s₁ mg mb fa o pm cd doc a vs ns G Y ho hd hcd hmg hobj hints hlen hbits hg => ?_
  have KX := PySem.W.km_in_of Y
  have has : ∀ c : Addr, as.contains c = false → (K w.params).lookup c = none := fun c hc => by
    rw [e w.params] at hc
    exact lookup_none _ c hc
  have own : ∀ fr, mg "roomy_fields" = some (.ref fr) → OwnTab (K w.params) fr s₁.heap := fun fr hfr c P o1 fd1 e dd vs1 sl k1 k2 k3 k4 k5 => by
    obtain ⟨dL, hm, hn1⟩ := List.any_eq_true.mp hrec
    have hn2 : dL.name = "roomy_fields" := beq_iff_eq.mp hn1
    obtain ⟨a', o', fd', c', P', h1, h2, h3, h4, h5, h6⟩ := G.T.tab dL hm
    rw [hn2, hfr] at h1
    cases h1
    have g1 := KX _ _ k1
    rw [g1] at h2
    cases h2
    rw [k2] at h3
    cases h3
    rw [k3] at h4
    cases h4
    obtain ⟨⟨oc, vc, e1, _, e3, e4⟩, hP⟩ := h6
    have g2 := KX _ _ k4
    rw [g2] at e1
    cases e1
    cases e3
    rw [k5] at e4
    cases e4
    exact hP
  obtain ⟨fd, cR, Pt, hb, hT, nT, C, hF⟩ := F w mg fa _ G.X KX G.T.g hmg own has
  exact LamX.law_callTs (cs := [(cR, Pt)]) (k := 8) KX G.T.g G.T.b G.T.builtins G.T.nolimit hg (fun p hp => by rw [List.mem_singleton.mp hp]; exact hT) (fun p hp => by rw [List.mem_singleton.mp hp]; exact nT) (fun p hp => by rw [List.mem_singleton.mp hp]; exact C) G.T.bmain hobj hints (Nat.le_trans hlen (by decide)) ⟨rfl, by decide, by decide⟩
    (fun base i n t => hF base i n (t _ (List.mem_singleton.mpr rfl))) hb (fun H hH hS => ⟨a, ns, rfl, hS, (fun r hr => by rw [List.mem_singleton.mp hr]; exact LamX.TabS.nil (hH (cR, Pt) (List.mem_singleton.mpr rfl))), fun _ => rfl⟩) fun _ _ _ z => z
theorem ground {l : PySem.W.OpenLaw} {w : World} {K : PySem.W.Frag} {h : Heap} {mg : Str → Option Value} {fa fr cR Pt : Addr} {fdR : FuncData} {oR : Obj} {e : Value} {dd : Option Addr} {vs : Array Value} {sl : Array (Option Value)}
    (X : K.In h) (own : ∀ fr, mg "roomy_fields" = some (.ref fr) → OwnTab K fr h) (mr : mg "roomy_fields" = some (.ref fr)) (lr : K.lookup fr = some oR) (dr : oR.data = .func fdR) (cr : fdR.code = .ref cR) (lc : K.lookup cR = some ⟨e, dd, .fields vs, sl⟩) (lv : vs[11]? = some (.ref Pt)) (nT : K.lookup Pt = none) (hh : PySem.W.codeHdIn [(cR, ⟨e, dd, .fields vs, sl⟩)] cR Pt = true)
    (A : ∃ fd : FuncData, (∀ (s : Shared) (v : Value), BindsTo s fd ⟨[v], []⟩ [("script", v)]) ∧ ∀ base : Heap, K.In base → base.Ns mainGlobals mg → TabB base mg cR Pt → FnOk l.prog w K mg base CX0 8 fa fd ["script"] (K5.spLaw K Pt)) :
    ∃ (fd : FuncData) (cR Pt : Addr), (∀ (s : Shared) (u : Value), BindsTo s fd ⟨[u], []⟩ [("script", u)]) ∧ h.get? Pt = some { cls := .none, data := .fields #[] } ∧ K.lookup Pt = none ∧ PySem.W.CodeHd h cR Pt ∧
      ∀ base : Heap, K.In base → base.Ns mainGlobals mg → TabB base mg cR Pt → FnOk l.prog w K mg base CX0 8 fa fd ["script"] (K5.spLaw K Pt) := by
  obtain ⟨fd, hb, hF⟩ := A
  have hh2 : PySem.W.codeHdIn K cR Pt = true := by
    unfold PySem.W.codeHdIn at hh ⊢
    rw [lc]
    rw [show List.lookup cR [(cR, (⟨e, dd, .fields vs, sl⟩ : Obj))] = some (⟨e, dd, .fields vs, sl⟩ : Obj) from by simp [List.lookup]] at hh
    exact hh
  exact ⟨fd, cR, Pt, hb, own fr mr cR Pt oR fdR e dd vs sl lr dr cr lc lv, nT, PySem.W.codeHd_of_K X hh2, hF⟩
end K5T
open PySem PySem.W PyProof.Rows in
set_option maxRecDepth 100000 in
set_option maxHeartbeats 0 in
theorem PySem.Challenge.cw_figurehold_k05_numbers_by_fractions_holds : PySem.Challenge.rw_figurehold_k05_numbers_by_fractions.Holds := by
  w_on; o_law; k_head; (case hw => w_witness2)
  k_fill
  refine K5T.walk (l := PySem.Challenge.rw_figurehold_k05_numbers_by_fractions) rfl rfl (by decide +kernel) ?F
  case F =>
    intro w mg fa h XX KX G hmg own has
    refine' K5T.ground KX own (PySem.W.mg_of KX G ?zz_mr) ?zz_lr ?zz_dr ?zz_cr ?zz_lc ?zz_lv ?zz_nT ?zz_hh (K5T.all_mk (K5T.great_of XX (by decide +kernel)) KX G hmg ?zz_a_F ?zz_F_pg ?zz_F_hd ?zz_F_po ?zz_F_sa ?zz_F_nN ?zz_F_nW ?zz_F_nP ?zz_F_mk ?zz_F_kp ?zz_a_finit ?zz_f_finit ?zz_l_finit ?zz_c_finit ?zz_k_finit ?zz_a_packed ?zz_f_packed ?zz_l_packed ?zz_c_packed ?zz_k_packed ?zz_a_key ?zz_f_key ?zz_l_key ?zz_c_key ?zz_k_key ?zz_a_told ?zz_f_told ?zz_l_told ?zz_c_told ?zz_k_told ?zz_a_mono ?zz_f_mono ?zz_l_mono ?zz_c_mono ?zz_k_mono ?zz_a_low ?zz_l_low ?zz_c_low ?zz_k_low ?zz_a_powers ?zz_l_powers ?zz_c_powers ?zz_k_powers ?zz_a_val ?zz_l_val ?zz_c_val ?zz_k_val ?zz_a_vars ?zz_l_vars ?zz_c_vars ?zz_k_vars ?zz_a_plus ?zz_l_plus ?zz_c_plus ?zz_k_plus ?zz_a_most ?zz_l_most ?zz_c_most ?zz_k_most ?zz_a_row ?zz_l_row ?zz_c_row ?zz_k_row ?zz_a_count ?zz_l_count ?zz_c_count ?zz_k_count ?zz_a_deg ?zz_l_deg ?zz_c_deg ?zz_k_deg ?zz_a_grt ?zz_l_grt ?zz_c_grt ?zz_k_grt ?zz_a_added ?zz_l_added ?zz_c_added ?zz_k_added ?zz_a_mul ?zz_l_mul ?zz_c_mul ?zz_k_mul ?zz_a_chk ?zz_l_chk ?zz_c_chk ?zz_k_chk ?zz_a_toldf ?zz_l_toldf ?zz_c_toldf ?zz_k_toldf ?zz_a_by ?zz_l_by ?zz_c_by ?zz_k_by ?zz_a_of ?zz_l_of ?zz_c_of ?zz_k_of ?zz_a_tape ?zz_l_tape ?zz_c_tape ?zz_k_tape ?zz_a_load ?zz_l_load ?zz_c_load ?zz_k_load ?zz_a_draw ?zz_l_draw ?zz_c_draw ?zz_k_draw ?zz_a_same ?zz_l_same ?zz_c_same ?zz_k_same ?zz_a_signs ?zz_l_signs ?zz_c_signs ?zz_k_signs ?zz_a_factor ?zz_l_factor ?zz_c_factor ?zz_k_factor ?zz_a_table ?zz_l_table ?zz_c_table ?zz_k_table ?zz_a_polyt ?zz_l_polyt ?zz_c_polyt ?zz_k_polyt ?zz_a_hand ?zz_l_hand ?zz_c_hand ?zz_k_hand ?zz_a_div ?zz_l_div ?zz_c_div ?zz_k_div ?zz_a_llow ?zz_l_llow ?zz_c_llow ?zz_k_llow ?zz_a_frac ?zz_l_frac ?zz_c_frac ?zz_k_frac ?zz_a_own ?zz_l_own ?zz_c_own ?zz_k_own ?zz_a_reck ?zz_l_reck ?zz_c_reck ?zz_k_reck ?zz_a_pairs ?zz_l_pairs ?zz_c_pairs ?zz_k_pairs ?zz_a_names ?zz_l_names ?zz_c_names ?zz_k_names ?zz_a_lack ?zz_l_lack ?zz_c_lack ?zz_k_lack ?zz_a_drawn ?zz_l_drawn ?zz_c_drawn ?zz_k_drawn ?zz_a_two ?zz_l_two ?zz_c_two ?zz_k_two ?zz_a_law ?zz_l_law ?zz_c_law ?zz_k_law ?zz_a_roomy ?zz_l_roomy ?zz_c_roomy ?zz_k_roomy ?zz_aMost ?zz_aRows ?zz_z_len ?zz_z_int ?zz_z_abs ?zz_z_max ?zz_z_list ?zz_z_isinstance ?zz_z_range ?zz_z_tuple ?zz_z_str ?zz_z_bool ?zz_z_any ?zz_z_sorted ?zz_z_sum ?zz_z_enumerate ?zz_z_divmod ?zz_z_min ?zz_z_dict ?zz_a0 ?zz_x0 ?zz_s0 ?zz_g0 ?zz_h0 ?zz_n0 ?zz_c0 ?zz_i0 ?zz_t0 ?zz_l0 ?zz_d0 ?zz_k0 ?zz_kk0 ?zz_T0 ?zz_aB ?zz_xB ?zz_gB ?zz_rB ?zz_iB ?zz_tB ?zz_oG ?zz_oT ?zz_aM ?zz_xM ?zz_tM ?zz_nMC ?zz_nMD ?zz_a_gcd)
    (case zz_mr => k_is)
    (case zz_lr => k_is)
    (case zz_dr => rfl)
    (case zz_cr => rfl)
    (case zz_lc => k_is)
    (case zz_lv => rfl)
    (case zz_nT => exact has _ (by decide +kernel))
    (case zz_hh => rfl)
    (case zz_a_F => k_is)
    (case zz_F_pg => k_is)
    (case zz_F_hd => k_is)
    (case zz_F_po => k_is)
    (case zz_F_sa => k_is)
    (case zz_F_nN => k_is)
    (case zz_F_nW => k_is)
    (case zz_F_nP => k_is)
    (case zz_F_mk => k_is)
    (case zz_F_kp => k_is)
    (case zz_a_finit => k_is)
    (case zz_f_finit => k_is)
    (case zz_l_finit => k_is)
    (case zz_c_finit => k_is)
    (case zz_k_finit => k_is)
    (case zz_a_packed => k_is)
    (case zz_f_packed => k_is)
    (case zz_l_packed => k_is)
    (case zz_c_packed => k_is)
    (case zz_k_packed => k_is)
    (case zz_a_key => k_is)
    (case zz_f_key => k_is)
    (case zz_l_key => k_is)
    (case zz_c_key => k_is)
    (case zz_k_key => k_is)
    (case zz_a_told => k_is)
    (case zz_f_told => k_is)
    (case zz_l_told => k_is)
    (case zz_c_told => k_is)
    (case zz_k_told => k_is)
    (case zz_a_mono => k_is)
    (case zz_f_mono => k_is)
    (case zz_l_mono => k_is)
    (case zz_c_mono => k_is)
    (case zz_k_mono => k_is)
    (case zz_a_low => k_is)
    (case zz_l_low => k_is)
    (case zz_c_low => k_is)
    (case zz_k_low => k_is)
    (case zz_a_powers => k_is)
    (case zz_l_powers => k_is)
    (case zz_c_powers => k_is)
    (case zz_k_powers => k_is)
    (case zz_a_val => k_is)
    (case zz_l_val => k_is)
    (case zz_c_val => k_is)
    (case zz_k_val => k_is)
    (case zz_a_vars => k_is)
    (case zz_l_vars => k_is)
    (case zz_c_vars => k_is)
    (case zz_k_vars => k_is)
    (case zz_a_plus => k_is)
    (case zz_l_plus => k_is)
    (case zz_c_plus => k_is)
    (case zz_k_plus => k_is)
    (case zz_a_most => k_is)
    (case zz_l_most => k_is)
    (case zz_c_most => k_is)
    (case zz_k_most => k_is)
    (case zz_a_row => k_is)
    (case zz_l_row => k_is)
    (case zz_c_row => k_is)
    (case zz_k_row => k_is)
    (case zz_a_count => k_is)
    (case zz_l_count => k_is)
    (case zz_c_count => k_is)
    (case zz_k_count => k_is)
    (case zz_a_deg => k_is)
    (case zz_l_deg => k_is)
    (case zz_c_deg => k_is)
    (case zz_k_deg => k_is)
    (case zz_a_grt => k_is)
    (case zz_l_grt => k_is)
    (case zz_c_grt => k_is)
    (case zz_k_grt => k_is)
    (case zz_a_added => k_is)
    (case zz_l_added => k_is)
    (case zz_c_added => k_is)
    (case zz_k_added => k_is)
    (case zz_a_mul => k_is)
    (case zz_l_mul => k_is)
    (case zz_c_mul => k_is)
    (case zz_k_mul => k_is)
    (case zz_a_chk => k_is)
    (case zz_l_chk => k_is)
    (case zz_c_chk => k_is)
    (case zz_k_chk => k_is)
    (case zz_a_toldf => k_is)
    (case zz_l_toldf => k_is)
    (case zz_c_toldf => k_is)
    (case zz_k_toldf => k_is)
    (case zz_a_by => k_is)
    (case zz_l_by => k_is)
    (case zz_c_by => k_is)
    (case zz_k_by => k_is)
    (case zz_a_of => k_is)
    (case zz_l_of => k_is)
    (case zz_c_of => k_is)
    (case zz_k_of => k_is)
    (case zz_a_tape => k_is)
    (case zz_l_tape => k_is)
    (case zz_c_tape => k_is)
    (case zz_k_tape => k_is)
    (case zz_a_load => k_is)
    (case zz_l_load => k_is)
    (case zz_c_load => k_is)
    (case zz_k_load => k_is)
    (case zz_a_draw => k_is)
    (case zz_l_draw => k_is)
    (case zz_c_draw => k_is)
    (case zz_k_draw => k_is)
    (case zz_a_same => k_is)
    (case zz_l_same => k_is)
    (case zz_c_same => k_is)
    (case zz_k_same => k_is)
    (case zz_a_signs => k_is)
    (case zz_l_signs => k_is)
    (case zz_c_signs => k_is)
    (case zz_k_signs => k_is)
    (case zz_a_factor => k_is)
    (case zz_l_factor => k_is)
    (case zz_c_factor => k_is)
    (case zz_k_factor => k_is)
    (case zz_a_table => k_is)
    (case zz_l_table => k_is)
    (case zz_c_table => k_is)
    (case zz_k_table => k_is)
    (case zz_a_polyt => k_is)
    (case zz_l_polyt => k_is)
    (case zz_c_polyt => k_is)
    (case zz_k_polyt => k_is)
    (case zz_a_hand => k_is)
    (case zz_l_hand => k_is)
    (case zz_c_hand => k_is)
    (case zz_k_hand => k_is)
    (case zz_a_div => k_is)
    (case zz_l_div => k_is)
    (case zz_c_div => k_is)
    (case zz_k_div => k_is)
    (case zz_a_llow => k_is)
    (case zz_l_llow => k_is)
    (case zz_c_llow => k_is)
    (case zz_k_llow => k_is)
    (case zz_a_frac => k_is)
    (case zz_l_frac => k_is)
    (case zz_c_frac => k_is)
    (case zz_k_frac => k_is)
    (case zz_a_own => k_is)
    (case zz_l_own => k_is)
    (case zz_c_own => k_is)
    (case zz_k_own => k_is)
    (case zz_a_reck => k_is)
    (case zz_l_reck => k_is)
    (case zz_c_reck => k_is)
    (case zz_k_reck => k_is)
    (case zz_a_pairs => k_is)
    (case zz_l_pairs => k_is)
    (case zz_c_pairs => k_is)
    (case zz_k_pairs => k_is)
    (case zz_a_names => k_is)
    (case zz_l_names => k_is)
    (case zz_c_names => k_is)
    (case zz_k_names => k_is)
    (case zz_a_lack => k_is)
    (case zz_l_lack => k_is)
    (case zz_c_lack => k_is)
    (case zz_k_lack => k_is)
    (case zz_a_drawn => k_is)
    (case zz_l_drawn => k_is)
    (case zz_c_drawn => k_is)
    (case zz_k_drawn => k_is)
    (case zz_a_two => k_is)
    (case zz_l_two => k_is)
    (case zz_c_two => k_is)
    (case zz_k_two => k_is)
    (case zz_a_law => k_is)
    (case zz_l_law => k_is)
    (case zz_c_law => k_is)
    (case zz_k_law => k_is)
    (case zz_a_roomy => k_is)
    (case zz_l_roomy => k_is)
    (case zz_c_roomy => k_is)
    (case zz_k_roomy => k_is)
    (case zz_aMost => k_is)
    (case zz_aRows => k_is)
    (case zz_z_len => k_is)
    (case zz_z_int => k_is)
    (case zz_z_abs => k_is)
    (case zz_z_max => k_is)
    (case zz_z_list => k_is)
    (case zz_z_isinstance => k_is)
    (case zz_z_range => k_is)
    (case zz_z_tuple => k_is)
    (case zz_z_str => k_is)
    (case zz_z_bool => k_is)
    (case zz_z_any => k_is)
    (case zz_z_sorted => k_is)
    (case zz_z_sum => k_is)
    (case zz_z_enumerate => k_is)
    (case zz_z_divmod => k_is)
    (case zz_z_min => k_is)
    (case zz_z_dict => k_is)
    (case zz_a0 => k_is)
    (case zz_x0 => k_is)
    (case zz_s0 => k_is)
    (case zz_g0 => k_is)
    (case zz_h0 => k_is)
    (case zz_n0 => k_is)
    (case zz_c0 => k_is)
    (case zz_i0 => k_is)
    (case zz_t0 => k_is)
    (case zz_l0 => k_is)
    (case zz_d0 => k_is)
    (case zz_k0 => k_is)
    (case zz_kk0 => k_is)
    (case zz_T0 => k_is)
    (case zz_aB => k_is)
    (case zz_xB => k_is)
    (case zz_gB => k_is)
    (case zz_rB => k_is)
    (case zz_iB => k_is)
    (case zz_tB => k_is)
    (case zz_oG => k_is)
    (case zz_oT => k_is)
    (case zz_aM => k_is)
    (case zz_xM => k_is)
    (case zz_tM => k_is)
    (case zz_nMC => k_is)
    (case zz_nMD => decide)
    (case zz_a_gcd => k_is)

