import PyProof.Rows.All
import Wide.All
import OpenK.AllK
import Wide.FinOn
import HandS.ForMost
import HandS.Exc
import HandS.WordsExc
import HandS.ExcInit
import HandS.FStr
import HandS.ClsMeth
import HandS.ExcCtx
import KE.KExcIs
import HandS.ExcField
import HandS.IsInst
import KE.KeyNested
import PyProof.DictRoadsH
import PyProof.DictMoreH
import HandS.Base
import HandS.Call
import HandS.List
import HandS.Dict
import HandS.Iter
import HandS.DictTup
import HandS.TupLen
import HandS.OwnEq
import KE.KDictWalk
import HandS.DictComp
import HandS.Comp
import KE.SortData
import HandS.Conv
import HandS.WordsDict
import HandS.Wide
import HandS.Words
import HandS.More
import HandS.Walk
import HandS.Codes
import HandS.ListItems
import KE.GoesNew
import KE.GoesMore
import PyProof.EnumMake
import HandS.Star
import HandS.CallLocal
import HandS.WrittenGet
import HandS.SortKw
import KE.KDictList
import HandS.TupAny
import HandS.ExcOwn
import HandS.Defaults
import HandS.HotCalls
import HandS.RaiseMore
import HandS.TryOnly
import HandS.Ends
import PySem.Challenge.RW_figurehold_k12_impossible_steps
set_option Elab.async false
set_option linter.all false
set_option maxRecDepth 100000
set_option maxHeartbeats 4000000
/-! Errors of own classes under an own base under Exception; each __init__ calls the base's, then keeps one field. -/
namespace PySem
namespace OwnErr
open PySem.W PySem.Calls PyProof.Rows PySem.HandSPX Builtin Builtin.ObjectAttr
def endE : List Value := [.type "Exception", .type "BaseException", .type "object"]
/-- a class's ancestors: own classes, then Exception's -/
def Line (l : List Value) : Prop := ∃ own : List Addr, l = own.map Value.ref ++ endE
theorem Line.cons {l : List Value} {C : Addr} (h : Line l) : Line (.ref C :: l) := by
  obtain ⟨own, e⟩ := h
  exact ⟨C :: own, by rw [e]; rfl⟩
theorem Line.has {l : List Value} (h : Line l) (T : String) : l.contains (.type T) = endE.contains (.type T) := by
  obtain ⟨own, rfl⟩ := h
  induction own with
  | nil => rfl
  | cons c r ih =>
    show List.contains (Value.ref c :: (r.map Value.ref ++ endE)) (Value.type T) = _
    rw [List.contains_cons, ih]
    exact Bool.false_or _
theorem Line.pass {l : List Value} (h : Line l) (me : Value) : refuseLoop me "__setattr__" l = pure () := by
  obtain ⟨own, rfl⟩ := h
  induction own with
  | nil => exact F.store_Exception.passes me
  | cons c r ih =>
    show refuseLoop me "__setattr__" (Value.ref c :: (r.map Value.ref ++ endE)) = _
    rw [refuseLoop_ref, ih]
theorem Line.some {l : List Value} (h : Line l) : l.isEmpty = false := by
  obtain ⟨own, rfl⟩ := h
  cases own <;> rfl
section
variable {prog : Program} {w : World} {A : Around} {E : Value → Shared → Prop} {R : Result → Shared → Prop} {hp : Heap} {g : Array GenState} {d : Drawn} {t : Nat} {os : OsState}
/-- the first field of an error at e that has no dict as yet: the dict at dx is laid -/
theorem first_field {K : W.Frag} {name : Str} {tk : Tok} {v : Value} {e C : Addr} {vs : Array Value} {cd : ClassData} (kin : K.In hp) (he : hp.get? e = some { cls := .ref C, data := .fields vs })
    (hcd : W.clsIn K C = some cd) (hl : Line cd.mro) (hh : cd.hasDict = true) (no : W.findIn K (.ref C) name = some none)
    (go : ∀ h2 tk2 dx, (∀ b o, b ≠ e → hp.get? b = some o → h2.get? b = some o) → hp.objs.size ≤ dx → dx ≠ e → h2.get? e = some { cls := .ref C, dict := some dx, data := .fields vs } →
      h2.Ns1 dx (fun y => if y = name then some v else none) → R (.ok (.ret .none)) ⟨h2, g, d, tk2, os⟩) :
    codeAny (model prog w) A (.call (.builtin "object.__setattr__") ⟨[.ref e, .str name tk, v], []⟩) R ⟨hp, g, d, t, os⟩ := by
  have at_ : W.InstAt hp e { cls := .ref C, data := .fields vs } C none := ⟨he, rfl, rfl, trivial⟩
  have so := F.store_object
  have mro : W.Looks (model prog w) hp (mroOf (.ref C)) cd.mro := (W.looks_clsIn kin hcd).andThen .now
  have old : e ≠ hp.objs.size := Nat.ne_of_lt (Heap.lt_size he)
  have isObj : W.Looks (model prog w) hp (isInstance (.ref e) (.type "object")) true :=
    at_.type.andThen (W.looks_mroIn kin (by unfold W.mroIn; rw [hcd, Option.bind_some, hl.some, hl.has]; decide +kernel))
  have cls : W.Looks (model prog w) hp (classData C) cd := W.looks_clsIn kin hcd
  have taker : W.Looks (model prog w) hp (storeTaker? none) none := .now
  refine codeAny_call_builtin so.slot.plain so.entry (@W.check_slot (model prog w) _ _ ⟨hp, g, d, t, os⟩ "object.__setattr__" "object" "__setattr__" (.ref e) [.str name tk, v] [] _ so.kind so.split isObj (so.args (.ref e) (.str name tk) v) ?_)
  rw [W.osa_eq, refuse_eq]
  refine wpAny_bind (wpAny_bind (at_.type.at (wpAny_bind (mro.at ?_))))
  rw [hl.pass]
  refine wpAny_pure (wpAny_bind (at_.type.at (wpAny_bind ((W.looks_findIn kin no).at (wpAny_bind (taker.at ?_))))))
  obtain ⟨_, _, _, _, _, hd, _, _, _, _, _⟩ := cd
  obtain rfl : hd = true := hh
  show wpAny _ _ (storeInOwnDict (.ref e) (.ref C) (.str name tk) name v false) _ _ _
  unfold storeInOwnDict ownDictForStores
  repeat (first | with_reducible refine HandSPX.store_in_new ?_ ?_ | with_reducible refine wpAny_loadPart_at he ?_ | with_reducible refine cls.at ?_ | wp_step)
  · exact ⟨_, #[], _, (Heap.get?_update_ne _ _ _ _ old.symm).trans (Heap.get?_push_at rfl rfl), rfl, fun z hz => absurd hz (by simp), fun _ => rfl⟩
  · intro h2 tk2 hn hs
    have there : (hp.push { cls := .type "dict", data := .dict #[] }).get? e = some { cls := .ref C, data := .fields vs } := Heap.get?_push_of_some _ he
    exact go h2 tk2 hp.objs.size (fun b o hb ho => (hs.2 b (Nat.ne_of_lt (Heap.lt_size ho))).trans ((Heap.get?_update_ne _ _ _ _ hb).trans (Heap.get?_push_of_some _ ho))) (Nat.le_refl _) old.symm
      ((hs.2 e old).trans (Heap.get?_update_self _ there rfl)) hn
end
end OwnErr
end PySem

namespace L2
open PySem PySem.Spec PyProof.Rows
/-- what the written part says of such a class -/
structure ErrC (K : PySem.W.Frag) (C : Addr) : Prop where
  cls : ∃ nm q N bs bm sn sub ab col dd k0 k1 k2 k3 k5, K.lookup C = some (excClassObj nm q C N bs bm true sn sub ab col dd k0 k1 k2 k3 k5 "Exception.__new__") ∧ PySem.OwnErr.Line bm
  sa : PySem.W.findIn K (.ref C) "__setattr__" = some (some (.builtin "object.__setattr__"))
  exC : PySem.W.subIn K (.ref C) (.type "BaseException") = some true
  tyC : PySem.W.typeIn K (.ref C) = some (.type "type")
  kC : PySem.W.keepIn K (.ref C) = true
/-- .. and of the base whose __init__ is called by name -/
structure BaseC (K : PySem.W.Frag) (B : Addr) : Prop where
  ga : PySem.W.specialIn K (.ref B) "__getattribute__" = some (some (.builtin "type.__getattribute__"))
  rd : PySem.W.readsIn (mc := .type "type") K B = true
  ini : PySem.W.findCls K (.ref B) (.type "type") "__init__" = some (.val (.builtin "Exception.__init__"))
/-- self.f = e, the error's first field -/
def tField (K : PySem.W.Frag) (f : Str) (to te : TE) : TS := fun D σ H => te σ H fun y H1 => to σ H1 fun x H2 => ∃ a C : Addr, x = .ref a ∧ ErrC K C ∧ PySem.W.findIn K (.ref C) f = some none ∧ H2 a = some (exo a C none) ∧
  ∀ dx, H2 dx = none → dx ≠ a → D.nx σ (upd (upd H2 dx (exd dx [(f, y)])) a (exo a C (some dx)))
/-- Base.__init__(self, ..) -/
def tBaseInit (K : PySem.W.Frag) (ta : TA) : TE := fun σ H Q => ta σ H fun vs H1 => ∃ (a C : Addr) (ws : List V), vs = .ref a :: ws ∧ ws.length ≤ 1000 ∧ ErrC K C ∧ H1 a = some (exo a C none) ∧ Q .non H1
/-- C(e, ..), C's own __init__ keeping sp -/
def tErr (C : Addr) (sp : Sp) (ta : TA) : St → Hp → XK → Prop := fun σ H Q => ta σ H fun vs H1 => vs.length ≤ 1000 ∧ ∀ a, H1 a = none → sp (.ref a :: vs) (upd H1 a (exo a C none))
  (fun v H2 => v = .non ∧ ∃ (d : Addr) (fs : List (Str × V)), H2 a = some (exo a C (some d)) ∧ H2 d = some (exd d fs) ∧ H1 d = none ∧ Q (.ref C) (some d) (upd (del H2 a) d (.xd fs))) (fun _ _ _ => False)
section
variable {X : Cx} {pins : List (Addr × Obj)} {σ : St} {H : Hp} {s : Shared} {a C : Addr}
theorem ErrC.data (T : ErrC X.K C) : ∃ cd, PySem.W.clsIn X.K C = some cd ∧ PySem.OwnErr.Line cd.mro ∧ cd.hasDict = true := by
  obtain ⟨nm, q, N, bs, bm, sn, sub, ab, col, dd, k0, k1, k2, k3, k5, hC, hl⟩ := T.cls
  refine ⟨{ name := nm, bases := bs, mro := .ref C :: bm, ns := N, qualname := q, hasDict := true, slotNames := sn, subclasses := sub, abstract := ab, collection := col, hasDel := false }, ?_, hl.cons, rfl⟩
  unfold PySem.W.clsIn
  rw [hC] <;> rfl
theorem field_first {f : Str} {y : V} {u : Value} {Q : Unit → Shared → Prop} {E : Value → Shared → Prop} {A : Around} (T : ErrC X.K C) (I : Inv X pins σ H s) (ea : H a = some (exo a C none)) (no : PySem.W.findIn X.K (.ref C) f = some none) (ry : RelV y u)
    (go : ∀ dx s2, H dx = none → dx ≠ a → Inv X pins σ (upd (upd H dx (exd dx [(f, y)])) a (exo a C (some dx))) s2 → Q () s2) : wpAny (model X.prog X.w) A (setAttr (.ref a) f u) Q E s := by
  obtain ⟨cd, hcd, hl, hd⟩ := T.data
  obtain ⟨t1, ho⟩ := exo_at I.hok ea
  obtain ⟨hp, g, dr, t, os⟩ := s
  refine PySem.W.set_plain I.kIn (ox := { cls := .ref C, dict := none, data := .fields #[.ref t1, .none, .none, .none, .bool false, .none] }) (od := none) ⟨ho, rfl, rfl, trivial⟩ T.sa ?_
  refine PySem.OwnErr.first_field I.kIn ho hcd hl hd no (fun h2 t2 dx keep new ne hx hn => ?_)
  have fresh : H dx = none := I.hok.fresh new
  have neD : ∀ {b : Addr} {o : Obj}, hp.get? b = some o → b ≠ dx := fun q => Nat.ne_of_lt (Nat.lt_of_lt_of_le (Heap.lt_size q) new)
  have neA : ∀ {b : Addr}, H b = none → b ≠ a := fun n z => by
    rw [z, ea] at n
    cases n
  have un : Un X.fs [] H (upd (upd H dx (exd dx [(f, y)])) a (exo a C (some dx))) hp h2 :=
    { keep := fun b o q n _ _ => keep b o (neA n) q
      slot := fun b o q n _ _ => ⟨o.slots, keep b o (neA n) q⟩
      free := fun b o q n _ => (upd_ne (neA n)).trans ((upd_ne (neD q)).trans n)
      there := fun b o q _ => by
        by_cases hb : b = a
        · exact ⟨_, hb.symm ▸ hx⟩
        · exact ⟨o, keep b o hb q⟩
      tups := fun b xs q => (upd_ne (at_ne ea q exo_tup)).trans ((upd_ne (ne_of_none q fresh)).trans q)
      frzs := fun b o v q => (upd_ne (at_ne ea q exo_frz)).trans ((upd_ne (ne_of_none q fresh)).trans q)
      tbls := fun b ps q => ⟨#[], ((upd_ne (at_ne ea q exo_tbl)).trans ((upd_ne (ne_of_none q fresh)).trans q)).trans (by simp)⟩ }
  refine go dx _ fresh ne (I.un (t' := t2) un fun b o q => ?_)
  by_cases hb : b = a
  · subst hb
    rw [upd_same] at q
    cases q
    exact exo_ok hx
  · rw [upd_ne hb] at q
    by_cases hd : b = dx
    · subst hd
      rw [upd_same] at q
      cases q
      exact exd_ok hn (relO_put (fs := []) ry fun _ => True.intro)
    · rw [upd_ne hd] at q
      refine (I.hok b o q).stay (fun c v hc z => keep c v ?_ z) (fun c hc => ?_) (fun c xs hc => ?_)
      · exact hc.elim (fun e => by rw [e]; exact hb) fun e => at_ne ea e exo_own
      · exact (upd_ne (at_ne ea hc exo_own)).trans ((upd_ne (ne_of_none hc fresh)).trans hc)
      · exact (upd_ne (at_ne ea hc exo_tup)).trans ((upd_ne (ne_of_none hc fresh)).trans hc)
theorem base_init {us : List Value} {Q : Value → Shared → Prop} {E : Value → Shared → Prop} {A : Around} (T : ErrC X.K C) (I : Inv X pins σ H s) (ea : H a = some (exo a C none)) (hl : us.length ≤ sizeLine) (go : ∀ s2, Inv X pins σ H s2 → Q .none s2) :
    wpAny (model X.prog X.w) A (call (.builtin "Exception.__init__") (.ref a :: us)) Q E s := by
  obtain ⟨nm, q, N, bs, bm, sn, sub, ab, col, dd, k0, k1, k2, k3, k5, hC, hline⟩ := T.cls
  obtain ⟨t1, ho⟩ := exo_at I.hok ea
  obtain ⟨hp, g, dr, t, os⟩ := s
  refine wpAny_call (PySem.HandSPX.init_base F.excBase_Exception (fun T => hline.has T) (I.kIn _ _ hC) ho hl fun h2 t2 keep hx => ?_)
  have eq : upd H a (exo a C none) = H := funext fun b => by
    by_cases hb : b = a
    · rw [hb, upd_same, ea]
    · rw [upd_ne hb]
  have J := I.write (t' := t) (x := a) (e := a) (o := exo a C none) (by rw [ea]; exact True.intro) (.inl rfl) keep ⟨_, hx⟩ (exo_ok hx)
  exact go _ (eq ▸ J)
end
section
variable {X : Cx} {o e : Expr} {es : List Expr} {to te : TE} {ta : TA} {f : Str} {p p' p1 p2 pos : Pos}
theorem ps_field (ho : PE X o to) (he : PE X e te) (hs : swapsWith e (some (.Attribute o f p')) pos.line X.env = pure false := by rfl) : PS X (.Assign [.Attribute o f p'] e pos) (tField X.K f to te) :=
  ⟨fun pins s σ H D I h => plainObj_wpAny_Assign_Attribute (thn (he.run pins s σ H _ I h) fun _ s1 ⟨y, H1, I1, r1, q1⟩ => thn (ho.run pins s1 σ H1 _ I1 q1) fun u s2 ⟨x, H2, I2, r2, a, C, ex, T, no, ea, q⟩ => by
    subst ex
    obtain rfl : u = Value.ref a := r2
    exact field_first T I2 ea no r1 fun dx s3 n ne J => ⟨σ, _, J, q dx n ne⟩) hs⟩
theorem pe_base {x : Str} {B : Addr} {pl : Sem Bool} (T : BaseC X.K B) (hg : Gl X x) (hm : X.mg x = some (.ref B)) (ha : PA X (e :: es) ta)
    (hc : eval (.Call (.Attribute (.Name x p1) "__init__" p2) (e :: es) [] pos) X.env = (do
      let ov ← eval (.Name x p1) X.env
      standAt p2.atName
      let (f, first) ← holding [ov] (getMethod ov "__init__" pl)
      callWith pos f first (backTo pos (starEach (e :: es) X.env)) (backToKw pos (keywordEach [] X.env))) := by rfl)
    (hdb : (x == ("__debug__" : Str)) = false := by decide) (he : starEach (e :: es) X.env = (false, eval e X.env) :: starEach es X.env := by rfl) (hpl : (backTo pos (starEach es X.env)).any (·.1) = false := by rfl) :
    PE X (.Call (.Attribute (.Name x p1) "__init__" p2) (e :: es) [] pos) (tBaseInit X.K ta) := by
  refine ⟨fun pins s σ H Q I h => ?_⟩
  refine PySem.W.methodCall_KW (ld_glob I hg hm ?_ hdb) hc
  refine PySem.W.method_cls I.kIn T.ga (PySem.W.cls_value I.kIn T.rd T.ini (by decide +kernel) ?_)
  show wpAny _ _ (callWith pos (Value.builtin "Exception.__init__") [] (backTo pos (starEach (e :: es) X.env)) []) _ _ _
  refine PyProof.Rows.callWith_method1 (thn (ha.run pos pins _ σ H _ (I.tok _) h) fun us s1 ⟨vs, H1, I1, r1, a, C, ws, ev, hl, TC, ea, q⟩ => ?_) he hpl
  subst ev
  cases r1 with
  | @cons _ u0 _ ur ra rr =>
    obtain rfl : u0 = Value.ref a := ra
    exact base_init TC I1 ea (by rw [← Paired.length rr, sizeLine_eq]; omega) fun s2 J => ⟨.non, H1, J, rfl, q⟩
theorem pmk_err {CX : CXT} {x : Str} {C fI : Addr} {k : Nat} {fd : FuncData} {ps : List Str} {sp : Sp} (T : ErrC X.K C) (iC : PySem.W.findIn X.K (.ref C) "__init__" = some (some (.ref fI))) (tI : PySem.W.typeIn X.K (.ref fI) = some (.type "function"))
    (G : FnOk X.prog X.w X.K X.mg X.base CX k fI fd ps sp) (hr : Room (k + 1) X.A) (hb : Binds X.K fd ps []) (hx : Passes CX X (fun _ _ _ => False)) (hg : Gl X x) (hm : X.mg x = some (.ref C)) (ha : PA X (e :: es) ta)
    (hdb : (x == ("__debug__" : Str)) = false := by decide) (he : starEach (e :: es) X.env = (false, eval e X.env) :: starEach es X.env := by rfl) (hpl : (backTo pos (starEach es X.env)).any (·.1) = false := by rfl) :
    L2N.PMk X (.Call (.Name x p) (e :: es) [] pos) (tErr C sp ta) := by
  intro pins s σ H Q I h
  obtain ⟨nm, q, N, bs, bm, sn, sub, ab, col, dd, k0, k1, k2, k3, k5, hC, hline⟩ := T.cls
  refine wpAny_Call_Name_kw (ld_glob I hg hm ?_ hdb)
  refine PySem.W.callWith_K (h₀ := X.base) I.ok.mod.kin T.kC (thn (ha.run pos pins s σ H _ I h) fun us s1 ⟨vs, H1, I1, r1, hz, q1⟩ => ⟨I1.kIn, ?_⟩) he hpl
  show wpAny _ _ (call (.ref C) us) _ _ _
  obtain ⟨hp, g, dr, tk, os⟩ := s1
  have big : hp.objs.size ≤ hp.objs.size + 1 := Nat.le_succ _
  have keep : ∀ b o, hp.get? b = some o → ((hp.push (PySem.W.kdv_tup us)).push (PySem.HandSPX.excO C hp.objs.size)).get? b = some o := fun _ _ z => Heap.get?_push_of_some _ (Heap.get?_push_of_some _ z)
  have made : ((hp.push (PySem.W.kdv_tup us)).push (PySem.HandSPX.excO C hp.objs.size)).get? (hp.objs.size + 1) = some (PySem.HandSPX.excO C hp.objs.size) := by heap_get
  have hq := q1 (hp.objs.size + 1) (I1.hok.fresh big)
  have I2 := I1.laid (t' := tk) (a := hp.objs.size + 1) (o := exo (hp.objs.size + 1) C none) (h' := (hp.push (PySem.W.kdv_tup us)).push (PySem.HandSPX.excO C hp.objs.size)) keep big (exo_ok made)
  have r2 : Vals (V.ref (hp.objs.size + 1) :: vs) (Value.ref (hp.objs.size + 1) :: us) := .cons rfl r1
  have len : (Value.ref (hp.objs.size + 1) :: us).length = ps.length := r2.length.symm.trans (G.len _ _ _ _ hq)
  have few : us.length ≤ sizeLine := by
    rw [← Paired.length r1, sizeLine_eq]
    omega
  have bind := hb _ (Value.ref (hp.objs.size + 1) :: us) I2.kIn (by simpa using len)
  refine wpAny_call (PySem.HandSPX.call_own F.excBase_Exception (fun T => hline.has T) (I1.kIn _ _ hC) (PySem.W.looks_findIn I1.kIn iC) (fun me => PySem.W.bind_fn I1.kIn me tI) few
    (codeAny_mono (G.run _ X.stack _ _ ⟨Value.ref (hp.objs.size + 1) :: us, []⟩ (Value.ref (hp.objs.size + 1) :: us) _ _ (fun _ _ _ => False) (hr.make C us []) (I2.env0.make C us []) (by simpa using bind) r2 hq) fun r s2 hs2 => ?_))
  match r, hs2 with
  | .error er, z => exact hx pins σ _ _ er s2 I2 z
  | .ok (.ret u), ⟨v, H2, os2, bare2, un2, hok2, rv, ev, d, fs, ea, ed, hd1, q2⟩ =>
    subst ev
    obtain ⟨h2, g2, d2, t2, os'⟩ := s2
    obtain ⟨t0, G2, J, keepG, gone, there, na⟩ := mk_end0 (d2 := d2) (t2 := t2) I1 big keep un2 hok2 os2 bare2 ea ed hd1
    exact ⟨rv, _, _, _, ⟨G2, g2, d2, t2, os'⟩, _, .ref C, some d, rfl, J, keepG, gone, there, ⟨rfl, rfl, fun vs e => by cases e; rfl⟩, rfl, rfl, na, rfl, bare2, raises_own T.exC T.tyC, q2⟩
  | .ok .next, z => exact z.elim
  | .ok .brk, z => exact z.elim
  | .ok .cont, z => exact z.elim
end
end L2

set_option Elab.async false
set_option linter.all false
set_option maxRecDepth 100000
set_option maxHeartbeats 4000000
/-! try: .. except A as e: .. except B as e: ..: several clauses, one name. -/
namespace L2
open PySem PySem.Spec PyProof.Rows
/-- behind a suite the name's slot is empty -/
def Ends.gone (D : Ends) (i : Nat) : Ends := { nx := fun σ H => D.nx (σ.set i none) H, rt := D.rt, bk := fun σ H => D.bk (σ.set i none) H, ct := fun σ H => D.ct (σ.set i none) H }
/-- what the clauses wish, one behind the other -/
def wEach (K : PySem.W.Frag) (i : Nat) (Wout : WX) (D : Ends) : List (Value × (Addr → Value → Option Addr → TS)) → WX
  | [] => Wout
  | (c, ts) :: more => fun cls d σ H => ∃ b, PySem.W.exmOne K cls c = some b ∧ (b = true → ∀ a, H a = none → ts a cls d (D.gone i) (σ.set i (some (.ref a))) H) ∧ (b = false → wEach K i Wout D more cls d σ H)
inductive Clauses (X : Cx) (n : Str) : List ExceptHandler → List (Value × (Addr → Value → Option Addr → TS)) → Prop
  | nil : Clauses X n [] []
  | cons {x : Str} {c : Value} {ts : Addr → Value → Option Addr → TS} {first : Stmt} {suite : List Stmt} {np hp : Pos} {more : List ExceptHandler} {l : List (Value × (Addr → Value → Option Addr → TS))} (hc : Names X x c)
      (hs : ∀ (a : Addr) (oe : Obj) (cls : Value) (d : Option Addr) (pn : List (Addr × Obj)), L2N.Zn cls d oe → (∃ vs, oe.data = .fields vs) → PSs (X.suite a ((a, oe) :: pn)) (first :: suite) (ts a cls d)) (r : Clauses X n more l) :
      Clauses X n (.ExceptHandler (some (.Name x np)) (some n) (first :: suite) hp :: more) ((c, ts) :: l)
section
variable {X : Cx} {n : Str} {i : Nat} {body : List Stmt} {h₁ : ExceptHandler} {hs₁ : List ExceptHandler} {l : List (Value × (Addr → Value → Option Addr → TS))} {pos : Pos} {tb : WX → TS} {Wout : WX}
theorem SP.untry {pins : List (Addr × Obj)} {xe : Value → Shared → Prop} {D : Ends} {f : Flow} {s : Shared} (ok : X.Ok) (h : SP (X.tr (X.pn ++ pins) xe) [] D f s) : SP X pins D f s :=
  match f, h with
  | .next, ⟨σ, H, J, q⟩ => ⟨σ, H, J.ofTry ok, q⟩
  | .brk, ⟨σ, H, J, q⟩ => ⟨σ, H, J.ofTry ok, q⟩
  | .cont, ⟨σ, H, J, q⟩ => ⟨σ, H, J.ofTry ok, q⟩
  | .ret _, ⟨v, σ, H, J, r, q⟩ => ⟨v, σ, H, J.ofTry ok, r, q⟩
theorem ps_try_each (st : X.stack = X.env :: X.outer) (fr : X.env.frame = some X.env.locals) (nd : X.N.Nodup) (hi : X.N[i]? = some n) (lo : X.env.kindOf n = some .local) (tk : L2N.Takes X Wout)
    (hb : ∀ (W : WX) (pn : List (Addr × Obj)) (xe : Value → Shared → Prop), L2N.Takes (X.tr pn xe) W → PassesOwn (model X.prog X.w) X.A X.env xe → PSs (X.tr pn xe) body (tb W))
    (hh : Clauses X n (h₁ :: hs₁) l) : PS X (.Try body (h₁ :: hs₁) [] [] pos) (fun D σ H => tb (wEach X.K i Wout D l) D σ H) := by
  refine ⟨fun pins s σ H D I h => ?_⟩
  have ok := I.ok
  have frs_ : X.A.frames = some (X.env :: X.outer) := by rw [ok.frames, st]
  refine wpAny_Try_except ?_
  refine wpAny_mono ((hb (wEach X.K i Wout D l) (X.pn ++ pins) (fun e sa => wpAny (model X.prog X.w) X.A (noteFrame e X.env) (fun _ sb => wpAny (model X.prog X.w) X.A (setFlight e none) (fun _ sc =>
    wpAny (model X.prog X.w) X.A (handleBy e X.env (h₁ :: hs₁)) (SP X pins D) X.xe sc) X.xe sb) X.xe sa) (fun u s2 hu => ?_) PassesOwn.looking).run [] s σ H D (I.toTry _) h) (fun f s2 hf => ?_) (fun _ _ z => z)
  · obtain ⟨a, B, sI, pins2, σ2, H2, cls, d, rfl, J0, nb, up, sky, na, os, ag, wish⟩ := hu
    have J : Inv X pins σ2 H2 sI := J0.ofTry ok
    show wpAny (model X.prog X.w) X.A (noteFrame (.ref a) X.env) _ _ _
    refine L2N.Sky.land L2N.Zn.steady frs_ fr (by rw [← st]; exact sky) fun h3 fl3 up3 => ?_
    have J3 : Inv X pins σ2 H2 { s2 with heap := h3 } := J.landed nb fl3.1 (up.trans up3) os ag
    obtain ⟨oe3, vs3, he3, hz3, hd3⟩ := fl3.there
    -- the error is no frame
    have out : a ∉ frs (X.env :: X.outer) := fun hm => by
      obtain ⟨_, o, ho, hnf⟩ := fl3.2.2.1.mem hm
      rw [he3] at ho
      cases ho
      exact hnf _ hd3
    have nL : a ≠ X.env.locals := fun z => out (List.mem_filterMap.mpr ⟨X.env, List.mem_cons_self, by rw [fr, z]⟩)
    have nF : a ∉ X.fs := fun hm => by
      obtain ⟨ev, he, q⟩ := List.mem_filterMap.mp hm
      exact out (List.mem_filterMap.mpr ⟨ev, List.mem_cons_of_mem _ he, q⟩)
    have S3 := J3.suite he3 hd3 na nL nF
    have go : ∀ {hs2 : List ExceptHandler} {l2 : List (Value × (Addr → Value → Option Addr → TS))}, Clauses X n hs2 l2 → wEach X.K i Wout D l2 cls d σ2 H2 →
        wpAny (model X.prog X.w) X.A (handleBy (.ref a) X.env hs2) (SP X pins D) X.xe { s2 with heap := h3 } := by
      intro hs2 l2 hk
      induction hk with
      | nil =>
        intro wish2
        refine wpAny_handleBy_nil ?_
        obtain ⟨_, _, _, oe, vs, T, oT, ts2, he, hz, hd, h1, _⟩ := id fl3
        unfold PySem.passOn
        refine wpAny_bind (wpAny_field he hd h1 ?_)
        rw [if_neg (show ¬ ((Value.ref T == Value.none) = true) from by simp)]
        have last : wpAny (model X.prog X.w) X.A (setFlight (.ref a) X.env.frame) (fun _ s5 => wpAny (model X.prog X.w) X.A (throw (.ref a) : Sem Flow) (SP X pins D) X.xe s5) X.xe { s2 with heap := h3 } := by
          rw [fr]
          exact HandSPX.setFlight_upZ fl3 fun h4 hh4 up4 => wpAny_throw (tk _ _ ⟨a, B, sI, pins, σ2, H2, cls, d, rfl, J, nb, (up.trans up3).trans up4, .inr (.inr (by rw [st]; exact hh4)), na, os, ag, wish2⟩)
        first
          | exact wpAny_bind (wpAny_pure (wpAny_bind last))
          | exact wpAny_bind last
      | @cons x c ts first suite np hp more l2 hc hsu r ih =>
        intro wish2
        obtain ⟨b, hb1, yes, no⟩ := wish2
        refine wpAny_handleBy_cons (codeAny_handlers_test ?_) (by intro q; cases q)
        have ty : PySem.W.Looks (model X.prog X.w) h3 (typeOf (.ref a)) cls := fun A Q E s k q => wpAny_typeOf_ref (k _ _ he3) (by rw [hz3.1]; exact q)
        have LM := PySem.W.exm_one (M := model X.prog X.w) J3.kIn ty hb1
        have test : ∀ {Q : Value → Shared → Prop} {E : Value → Shared → Prop}, Q c { s2 with heap := h3 } → wpAny (model X.prog X.w) (X.A.mark (some (.ref a))) (eval (.Name x np) X.env) Q E { s2 with heap := h3 } := fun {Q E} q =>
          match hc with
          | ⟨hg, hdbg, .inl hm⟩ => ld_glob (X := X.suite a ((a, oe3) :: (X.pn ++ pins))) S3 hg hm q hdbg
          | ⟨hg, hdbg, .inr ⟨hm, hv, hnn⟩⟩ => ld_blt (X := X.suite a ((a, oe3) :: (X.pn ++ pins))) S3 hg hm hv q hnn hdbg
        refine test (LM.here ?_)
        cases b with
        | false =>
          show wpAny _ X.A (handleBy (.ref a) X.env more) _ _ _
          exact ih (no rfl)
        | true =>
          refine codeAny_handlers_suite_as ?_
          refine HandSPX.lands_againZ fl3 fun h4 fl4 up4 => ?_
          have J4 : Inv X pins σ2 H2 { s2 with heap := h4 } := J.landed nb fl4.1 ((up.trans up3).trans up4) os ag
          obtain ⟨oe4, vs4, he4, hz4, hd4⟩ := fl4.there
          refine store_ok (X := X.suite a ((a, oe4) :: (X.pn ++ pins))) (v := .ref a) (J4.suite he4 hd4 na nL nF) nd hi (.inl lo) rfl (fun s5 S5 => ?_) (.inr lo)
          refine wpAny_mono ((hsu a oe4 cls d (X.pn ++ pins) hz4 ⟨_, hd4⟩).run [] s5 _ H2 _ S5 (yes rfl a na)) (fun f s6 hf => ?_) (fun _ _ z => z.elim)
          have fin : ∀ {σ6 : St} {H6 : Hp} {Q : Shared → Prop}, Inv (X.suite a ((a, oe4) :: (X.pn ++ pins))) [] σ6 H6 s6 → (∀ s7, Inv X pins (σ6.set i none) H6 s7 → Q s7) →
              wpAny (model X.prog X.w) X.A (do bindName X.env n .none; unbindBehindTheSuite X.env n hp) (fun _ s7 => Q s7) X.xe s6 := fun S6 hq => gone_ok (S6.unsuite ok) nd hi lo hq
          match f, hf with
          | .next, ⟨σ6, H6, S6, q6⟩ => exact fin S6 fun s7 J7 => ⟨_, _, J7, q6⟩
          | .brk, ⟨σ6, H6, S6, q6⟩ => exact fin S6 fun s7 J7 => ⟨_, _, J7, q6⟩
          | .cont, ⟨σ6, H6, S6, q6⟩ => exact fin S6 fun s7 J7 => ⟨_, _, J7, q6⟩
          | .ret u, ⟨v6, σ6, H6, S6, r6, q6⟩ => exact fin S6 fun s7 J7 => ⟨_, _, _, J7, r6, q6⟩
    exact go hh wish
  · have z := SP.untry ok hf
    cases f with
    | next => exact wpAny_execs_nil z
    | brk => exact z
    | cont => exact z
    | ret u => exact z
end
/-- what a class says, so that isinstance asks its instances rightly -/
structure AskC (K : PySem.W.Frag) (C : Addr) : Prop where
  cl : (PySem.W.clsIn K C).isSome = true
  ga : PySem.W.findIn K (.ref C) "__getattribute__" = some (some (.builtin "BaseException.__getattribute__"))
  gg : PySem.W.findIn K (.ref C) "__getattr__" = some none
  exC : PySem.W.subIn K (.ref C) (.type "BaseException") = some true
  cls : PySem.W.findIn K (.ref C) "__class__" = some (some (.builtin "object.__class__"))
  get : PySem.W.specialIn K (.builtin "object.__class__") "__get__" = some (some (.builtin "getset_descriptor.__get__"))
  tak : PySem.W.takesIn K (.builtin "object.__class__") = some true
  obj : PySem.W.mroIn K C (.type "object") = some true
/-- isinstance(e, c), e the error at a of the class cls -/
def rErrIs (K : PySem.W.Frag) (cls : Value) (a : Addr) (d : Option Addr) : List V → Hp → VK → Prop := fun xs H Q => ∃ (C : Addr) (c : V) (cv : Value) (b : Bool), cls = .ref C ∧ AskC K C ∧ xs = [.ref a, c] ∧ ClsV c cv ∧ (∀ dd, d = some dd → ∃ fs, H dd = some (.xd fs)) ∧ PySem.W.kitOne K cls cv = some b ∧ Q (.bl b) H
/-- isinstance(e, (c, ..)) -/
def rErrIsT (K : PySem.W.Frag) (cls : Value) (a : Addr) (d : Option Addr) : List V → Hp → VK → Prop := fun xs H Q => ∃ (C tp : Addr) (cs : List V) (us : List Value) (b : Bool), cls = .ref C ∧ AskC K C ∧ xs = [.ref a, .ref tp] ∧ H tp = some (.tup cs) ∧ Paired ClsV cs us ∧ (∀ dd, d = some dd → ∃ fs, H dd = some (.xd fs)) ∧ PySem.W.kitAny K cls us = some b ∧ Q (.bl b) H
section
variable {X : Cx} {a C : Addr} {cls : Value} {oe : Obj} {d : Option Addr} {pn : List (Addr × Obj)}
theorem err_inst {pins : List (Addr × Obj)} {σ : St} {H : Hp} {s : Shared} (I : Inv (X.suite a ((a, oe) :: pn)) pins σ H s) (hz : Zc (.ref C) d oe) (hf : ∃ vs, oe.data = .fields vs) (hd : ∀ dd, d = some dd → ∃ fs, H dd = some (.xd fs)) : ∃ od, PySem.W.InstAt s.heap a oe C od := by
  obtain ⟨hget, _⟩ := I.pin (a, oe) (List.mem_append_left _ List.mem_cons_self)
  obtain ⟨vs, hv⟩ := hf
  have nc : PySem.W.notCls oe = true := by unfold PySem.W.notCls; rw [hv] <;> rfl
  cases d with
  | none => exact ⟨none, hget, hz.1, nc, by rw [hz.2]; trivial⟩
  | some dd =>
    obtain ⟨fs, e⟩ := hd dd rfl
    obtain ⟨mA, ⟨o, _, _, ho, _⟩, _⟩ := (show ObjOk X.prog X.w H s.heap dd (.xd fs) from I.hok dd _ e)
    exact ⟨some o, hget, hz.1, nc, by rw [hz.2]; exact ho⟩
theorem call_errIs (hz : Zc cls d oe) (hf : ∃ vs, oe.data = .fields vs) : CallR (X.suite a ((a, oe) :: pn)) (.builtin "isinstance") (rErrIs X.K cls a d) := by
  intro pins s σ H xs us Q I r h
  obtain ⟨C, c, cv, b, rfl, T, rfl, hc, hd, e, q⟩ := h
  obtain ⟨u1, u2, rfl, r1, r2⟩ := vals2 r
  cases (show u1 = Value.ref a from r1)
  cases hc.eq r2
  obtain ⟨od, J⟩ := err_inst I hz hf hd
  exact PySem.W.kia_one (PySem.W.kitx_exc T.cl T.ga T.gg T.exC T.cls T.get T.tak T.obj) I.kIn J e (fun z => nomatch z) fun tk => ⟨.bl b, H, I.tok tk, rfl, q⟩
theorem call_errIsT (hz : Zc cls d oe) (hf : ∃ vs, oe.data = .fields vs) : CallR (X.suite a ((a, oe) :: pn)) (.builtin "isinstance") (rErrIsT X.K cls a d) := by
  intro pins s σ H xs us Q I r h
  obtain ⟨C, tp, cs, ws, b, rfl, T, rfl, hT, k, hd, e, q⟩ := h
  obtain ⟨u1, u2, rfl, r1, r2⟩ := vals2 r
  cases (show u1 = Value.ref a from r1)
  cases (show u2 = Value.ref tp from r2)
  obtain ⟨od, J⟩ := err_inst I hz hf hd
  obtain ⟨_, its, rv, o, h1, h2, m, h3⟩ := (show ObjOk X.prog X.w H s.heap tp (.tup cs) from I.hok tp _ hT)
  cases ClsV.all k rv
  obtain ⟨oc, od2, dt, sl⟩ := o
  simp only at h2 h3
  subst h2 h3
  exact PySem.W.kia_tup (PySem.W.kitx_exc T.cl T.ga T.gg T.exC T.cls T.get T.tak T.obj) I.kIn J h1 e (fun z => nomatch z) fun tk => ⟨.bl b, H, I.tok tk, rfl, q⟩
end
end L2

set_option Elab.async false
set_option linter.all false
set_option maxRecDepth 100000
set_option maxHeartbeats 4000000
/-! Dicts whose keys are tuples of any depth (nested keys), for the hand layer. Speaks of no program. -/
namespace K1D
open PySem PySem.Spec PyProof.Rows L2

/-! ### keys that stand -/
mutual
inductive KeyV (K : PySem.W.Frag) (H : Hp) : NestedKey → V → Prop
  | non : KeyV K H .none .non
  | int (i : Int) : KeyV K H (.num i) (.int i)
  | str (x : Str) : KeyV K H (.text x) (.str x)
  | tup {a : Addr} {xs : List V} {ks : List NestedKey} : H a = some (.tup xs) → KeyVs K H ks xs → KeyV K H (.tup ks) (.ref a)
inductive KeyVs (K : PySem.W.Frag) (H : Hp) : List NestedKey → List V → Prop
  | nil : KeyVs K H [] []
  | cons {k : NestedKey} {v : V} {ks : List NestedKey} {vs : List V} : KeyV K H k v → KeyVs K H ks vs → KeyVs K H (k :: ks) (v :: vs)
end
section
variable {K : PySem.W.Frag} {H H' : Hp}
/-- what stands in both: tuples -/
def Tups (K : PySem.W.Frag) (H H' : Hp) : Prop := ∀ a xs, H a = some (.tup xs) → H' a = some (.tup xs)
mutual
theorem KeyV.up (t : Tups K H H') : ∀ (k : NestedKey) (v : V), KeyV K H k v → KeyV K H' k v
  | .none, _, h => by cases h; exact .non
  | .num i, _, h => by cases h; exact .int i
  | .text x, _, h => by cases h; exact .str x
  | .tup ks, _, h => by
    cases h with
    | tup h1 h2 => exact .tup (t _ _ h1) (KeyVs.up t ks _ h2)
theorem KeyVs.up (t : Tups K H H') : ∀ (ks : List NestedKey) (vs : List V), KeyVs K H ks vs → KeyVs K H' ks vs
  | [], _, h => by cases h; exact .nil
  | k :: ks, _, h => by
    cases h with
    | cons h1 h2 => exact .cons (KeyV.up t k _ h1) (KeyVs.up t ks _ h2)
end
mutual
/-- .. is data -/
theorem KeyV.dp : ∀ (k : NestedKey) (v : V), KeyV K H k v → Dp K H v k.data
  | .none, _, h => by cases h; exact .non
  | .num i, _, h => by cases h; exact .int i
  | .text x, _, h => by cases h; exact .str x
  | .tup ks, _, h => by
    cases h with
    | tup h1 h2 => exact .tup (SqT.of h1) (KeyVs.dp ks _ h2)
theorem KeyVs.dp : ∀ (ks : List NestedKey) (vs : List V), KeyVs K H ks vs → DpAll K H vs (NestedKey.datas ks)
  | [], _, h => by cases h; exact .nil
  | k :: ks, _, h => by
    cases h with
    | cons h1 h2 => exact .cons (KeyV.dp k _ h1) (KeyVs.dp ks _ h2)
end
end
section
variable {X : Cx} {pins : List (Addr × Obj)} {σ : L2.St} {H : Hp} {s : Shared}
mutual
theorem KeyV.is (I : Inv X pins σ H s) : ∀ (k : NestedKey) (v : V) (u : Value), KeyV X.K H k v → RelV v u → NestedIs s.heap k u
  | .none, _, _, h, r => by cases h; cases r; exact .none
  | .num i, _, _, h, r => by
    cases h
    obtain ⟨t, rfl⟩ := r
    exact .int i t
  | .text x, _, _, h, r => by
    cases h
    obtain ⟨t, rfl⟩ := r
    exact .text x t
  | .tup ks, _, _, h, r => by
    cases h with
    | tup h1 h2 =>
      cases r
      obtain ⟨its, rv, ⟨o, ho, hc, n, hd⟩, _⟩ := I.tuple (SqT.of h1)
      exact .tup ho hc hd (KeyVs.is I ks _ _ h2 rv)
theorem KeyVs.is (I : Inv X pins σ H s) : ∀ (ks : List NestedKey) (vs : List V) (us : List Value), KeyVs X.K H ks vs → Vals vs us → NestedAll s.heap ks us
  | [], _, _, h, r => by cases h; cases r; exact .nil
  | k :: ks, _, _, h, r => by
    cases h with
    | cons h1 h2 =>
      cases r with
      | cons r1 r2 => exact .cons (KeyV.is I k _ _ h1 r1) (KeyVs.is I ks _ _ h2 r2)
end
end

/-! ### the dict -/
/-- an entry: its key, where the key stands, its value -/
abbrev NE := NestedKey × Addr × V
abbrev NR : List NE → List (NestedKey × Addr × Value) → Prop := Paired fun (p : NE) q => p.1 = q.1 ∧ p.2.1 = q.2.1 ∧ RelV p.2.2 q.2.2
def entN (w : World) (x : NestedKey × Addr × Value) : DictEntry := ⟨x.1.hash w, .ref x.2.1, x.2.2⟩
def NIn (w : World) (d : Addr) (kvs : List NE) (h : Heap) : Prop :=
  kvs.length ≤ sizeLine ∧ (d == sysModules) = false ∧ ∃ xs : List (NestedKey × Addr × Value), NR kvs xs ∧ ∃ o es ep, h.get? d = some o ∧ o.ExactDict ∧ o.data = .dict es ep ∧ es.toList = xs.map (entN w) ∧ (xs.map (·.1)).Nodup
def dN (w : World) (d : Addr) (kvs : List NE) : HO := .ext (NIn w d kvs)
/-- all its keys stand -/
def KeysN (K : PySem.W.Frag) (H : Hp) (kvs : List NE) : Prop := ∀ x ∈ kvs, KeyV K H x.1 (.ref x.2.1) ∧ x.1.depth ≤ 8
theorem KeysN.up {K : PySem.W.Frag} {H H' : Hp} {kvs : List NE} (k : KeysN K H kvs) (t : Tups K H H') : KeysN K H' kvs := fun x hx => ⟨(k x hx).1.up t _ _, (k x hx).2⟩
theorem Tups.ext {K : PySem.W.Frag} {H H' : Hp} (e : ∀ a o, H a = some o → H' a = some o) : Tups K H H' := fun a xs h => e _ _ h
/-- an object that is no tuple is changed, or a new one laid -/
theorem Tups.put {K : PySem.W.Frag} {H : Hp} {a : Addr} {o : HO} (h : ∀ xs, ¬ Rd H a (.tup xs)) : Tups K H (upd H a o) := fun b xs q =>
  (upd_ne (fun z => h xs (.inl (by rw [← z]; exact q)))).trans q
theorem Tups.refl {K : PySem.W.Frag} {H : Hp} : Tups K H H := fun _ _ h => h
theorem Tups.trans {K : PySem.W.Frag} {H H1 H2 : Hp} (a : Tups K H H1) (b : Tups K H1 H2) : Tups K H H2 := fun p xs h => b p xs (a p xs h)
theorem not_tup_dN {H : Hp} {w : World} {d : Addr} {kvs : List NE} (h : H d = some (dN w d kvs)) : ∀ xs, ¬ Rd H d (.tup xs) := fun xs q => by
  rcases q with q | ⟨o, q⟩
  · rw [h] at q; cases q
  · rw [h] at q; cases q
theorem not_tup_none {H : Hp} {d : Addr} (h : H d = none) : ∀ xs, ¬ Rd H d (.tup xs) := fun xs q => by
  rcases q with q | ⟨o, q⟩
  · rw [h] at q; cases q
  · rw [h] at q; cases q

/-- the value at k -/
def valN (kvs : List NE) (k : NestedKey) : Option V := (kvs.find? fun x => decide (x.1 = k)).map (·.2.2)
/-- k's value made v; a new key at the end, standing at b -/
def putN (kvs : List NE) (k : NestedKey) (b : Addr) (v : V) : List NE :=
  if (valN kvs k).isSome then kvs.map fun x => if x.1 = k then (x.1, x.2.1, v) else x else kvs ++ [(k, b, v)]
def dropN (kvs : List NE) (k : NestedKey) : List NE := kvs.filter fun x => decide (x.1 ≠ k)
section
variable {w : World} {K : PySem.W.Frag} {H : Hp}
theorem NR.val {kvs : List NE} {xs : List (NestedKey × Addr × Value)} (r : NR kvs xs) (k : NestedKey) : RelO (valN kvs k) ((atKey xs k).map (·.2)) := by
  induction r with
  | nil => exact True.intro
  | @cons p q ps qs h t ih =>
    obtain ⟨h1, _, h2⟩ := h
    by_cases e : p.1 = k
    · have e' : q.1 = k := h1.symm.trans e
      have b : atKey (q :: qs) k = some q.2 := by simp [atKey, List.find?_cons, e']
      have c : valN (p :: ps) k = some p.2.2 := by simp [valN, List.find?_cons, e]
      rw [b, c]; exact h2
    · have e' : ¬ q.1 = k := fun z => e (h1.trans z)
      have b : atKey (q :: qs) k = atKey qs k := by simp [atKey, List.find?_cons, e']
      have c : valN (p :: ps) k = valN ps k := by simp [valN, List.find?_cons, e]
      rw [b, c]; exact ih
theorem NR.repl {kvs : List NE} {xs : List (NestedKey × Addr × Value)} (r : NR kvs xs) (k : NestedKey) {y : V} {u : Value} (ry : RelV y u) :
    NR (kvs.map fun x => if x.1 = k then (x.1, x.2.1, y) else x) (xs.map (putAt k u)) := by
  induction r with
  | nil => exact .nil
  | @cons p q ps qs h t ih =>
    rw [List.map_cons, List.map_cons]
    refine .cons ?_ ih
    obtain ⟨h1, h2, h3⟩ := h
    unfold putAt
    by_cases e : p.1 = k
    · rw [if_pos e, if_pos (h1.symm.trans e)]; exact ⟨h1, h2, ry⟩
    · rw [if_neg e, if_neg (fun z => e (h1.trans z))]; exact ⟨h1, h2, h3⟩
theorem NR.put {kvs : List NE} {xs : List (NestedKey × Addr × Value)} (r : NR kvs xs) (k : NestedKey) {b : Addr} {y : V} {u : Value} (ry : RelV y u) :
    NR (putN kvs k b y) (storedH xs k b u) := by
  have e : (valN kvs k).isSome = (atKey xs k).isSome := by
    rw [(r.val k).isSome_eq, Option.isSome_map]
  unfold putN storedH
  rw [e]
  by_cases q : (atKey xs k).isSome = true
  · rw [if_pos q, if_pos q]; exact r.repl k ry
  · rw [if_neg q, if_neg q]; exact Paired.snoc r ⟨rfl, rfl, ry⟩
theorem NR.drop {kvs : List NE} {xs : List (NestedKey × Addr × Value)} (r : NR kvs xs) (k : NestedKey) : NR (dropN kvs k) (withoutH xs k) := by
  induction r with
  | nil => exact .nil
  | @cons p q ps qs h t ih =>
    unfold dropN withoutH
    rw [List.filter_cons, List.filter_cons]
    by_cases e : p.1 = k
    · rw [if_neg (by simp [e]), if_neg (by simp [← h.1, e])]; exact ih
    · rw [if_pos (by simp [e]), if_pos (by simp [← h.1, e])]; exact .cons h ih
theorem length_putN (kvs : List NE) (k : NestedKey) (b : Addr) (v : V) : (putN kvs k b v).length ≤ kvs.length + 1 := by
  unfold putN
  split
  · rw [List.length_map]; omega
  · rw [List.length_append]; exact Nat.le_refl _
theorem length_dropN (kvs : List NE) (k : NestedKey) : (dropN kvs k).length ≤ kvs.length := List.length_filter_le _ _
theorem KeysN.put {kvs : List NE} {k : NestedKey} {b : Addr} {v : V} (h : KeysN K H kvs) (hk : KeyV K H k (.ref b)) (hd : k.depth ≤ 8) : KeysN K H (putN kvs k b v) := fun x hx => by
  unfold putN at hx
  split at hx
  · obtain ⟨y, hy, e⟩ := List.mem_map.mp hx
    split at e
    · subst e; exact h y hy
    · subst e; exact h y hy
  · rcases List.mem_append.mp hx with hx | hx
    · exact h x hx
    · rw [List.mem_singleton] at hx
      subst hx
      exact ⟨hk, hd⟩
theorem KeysN.drop {kvs : List NE} {k : NestedKey} (h : KeysN K H kvs) : KeysN K H (dropN kvs k) := fun x hx => h x (List.mem_filter.mp hx).1
end

section
variable {X : Cx} {pins : List (Addr × Obj)} {σ : L2.St} {H : Hp} {s : Shared} {d : Addr} {kvs : List NE}
theorem dn_ok {P : Program} {w : World} {H : Hp} {h : Heap} {d : Addr} {kvs : List NE} (x : NIn w d kvs h) : ObjOk P w H h d (dN w d kvs) :=
  ⟨x, let ⟨_, _, _, _, o, _, _, ho, _⟩ := x; ⟨o, ho⟩, fun h1 h2 x k => let ⟨z, y, xs, r, o, es, ep, ho, q⟩ := x; ⟨z, y, xs, r, o, es, ep, k o ho, q⟩⟩
/-- in the heap itself -/
theorem dn_rd (I : Inv X pins σ H s) (e : Rd H d (dN X.w d kvs)) (ks : KeysN X.K H kvs) : kvs.length ≤ sizeLine ∧ (d == sysModules) = false ∧
    ∃ xs, NR kvs xs ∧ s.heap.DictOfH (nestedKind X.prog X.w) d xs := by
  obtain ⟨⟨z, y, xs, r, o, es, ep, h1, h2, h3, h4, h5⟩, _, _⟩ := (show ObjOk X.prog X.w H s.heap d (dN X.w d kvs) from rd_of I.hok e)
  refine ⟨z, y, xs, r, o, es, ep, h1, h2, h3, h4, fun x hx => ?_, h5⟩
  have all : ∀ {l : List NE} {m : List (NestedKey × Addr × Value)}, NR l m → KeysN X.K H l → ∀ x ∈ m, (nestedKind X.prog X.w).is s.heap x.1 x.2.1 := by
    intro l m q
    induction q with
    | nil => intro _ x hx; exact nomatch hx
    | @cons p q ps qs hq t ih =>
      intro hl x hx
      rcases List.mem_cons.mp hx with e | hx
      · subst e
        obtain ⟨a, b⟩ := hl p (List.mem_cons_self ..)
        refine ⟨?_, by rw [← hq.1]; exact b⟩
        rw [← hq.1, ← hq.2.1]
        exact a.is I _ _ _ rfl
      · exact ih (fun y hy => hl y (List.mem_cons_of_mem _ hy)) x hx
  exact all r ks x hx
theorem NIn.of {P : Program} {w : World} {h : Heap} {d : Addr} {kvs : List NE} {xs : List (NestedKey × Addr × Value)} (z : kvs.length ≤ sizeLine) (y : (d == sysModules) = false) (r : NR kvs xs) (dd : h.DictOfH (nestedKind P w) d xs) : NIn w d kvs h := by
  obtain ⟨o, es, ep, h1, h2, h3, h4, _, h5⟩ := dd
  exact ⟨z, y, xs, r, o, es, ep, h1, h2, h3, h4, h5⟩
end

/-! ### what is done with it -/
section
variable {X : Cx} {pins : List (Addr × Obj)} {σ : L2.St} {H : Hp} {s : Shared} {a b : Addr} {kvs : List NE} {k : NestedKey} {v : V} {r : Value} {A : Around} {E : Value → Shared → Prop}
theorem nis (I : Inv X pins σ H s) (hk : KeyV X.K H k (.ref b)) (hd : k.depth ≤ 8) : (nestedKind X.prog X.w).is s.heap k b := ⟨hk.is I _ _ _ rfl, hd⟩
theorem nroom {P : Program} {w : World} (hu : A.units + 9 < cLine) : (nestedKind P w).room A.in1 := show A.in1.units + 8 < cLine by rw [Around.in1_units]; omega
theorem nroom0 {P : Program} {w : World} (hu : A.units + 8 < cLine) : (nestedKind P w).room A := hu
theorem n_getItem {Q : Value → Shared → Prop} (hu : A.units + 9 < cLine) (I : Inv X pins σ H s) (e : Rd H a (dN X.w a kvs)) (ks : KeysN X.K H kvs) (hk : KeyV X.K H k (.ref b)) (hd : k.depth ≤ 8) (hv : valN kvs k = some v)
    (h : ∀ w' s', Inv X pins σ H s' → RelV v w' → Q w' s') : wpAny (model X.prog X.w) A (getItem (.ref a) (.ref b)) Q E s := by
  obtain ⟨z, hs, xs, rel, dd⟩ := dn_rd I e ks
  obtain ⟨w', hw, rw'⟩ := RelO.some_of (v := v) (o := (atKey xs k).map (·.2)) (by rw [← hv]; exact rel.val k)
  obtain ⟨p, hp, hp2⟩ := Option.map_eq_some_iff.mp hw
  refine wpAny_getItem_heap (knd := nestedKind X.prog X.w) (nroom hu) (nis I hk hd) dd hp ?_
  rw [hp2]
  exact h w' _ (I.tok _) rw'
theorem n_setItem {Q : Unit → Shared → Prop} (hu : A.units + 9 < cLine) (I : Inv X pins σ H s) (e : H a = some (dN X.w a kvs)) (ks : KeysN X.K H kvs) (hl : kvs.length < sizeLine) (hk : KeyV X.K H k (.ref b)) (hd : k.depth ≤ 8) (rv : RelV v r)
    (h : ∀ s', Inv X pins σ (upd H a (dN X.w a (putN kvs k b v))) s' → Q () s') : wpAny (model X.prog X.w) A (setItem (.ref a) (.ref b) r) Q E s := by
  obtain ⟨z, hs, xs, rel, dd⟩ := dn_rd I (.inl e) ks
  have hz : xs.length ≤ sizeLine := by rw [← Paired.length rel]; exact z
  refine wpAny_setItem_heap (knd := nestedKind X.prog X.w) (hsz := hz) (nroom hu) (nis I hk hd) dd fun h' dd' hs' => h _ ?_
  have he : ∃ q, h'.get? a = some q := let ⟨q, _, _, hq, _⟩ := dd'; ⟨q, hq⟩
  refine d_write I (by rw [e]; exact True.intro) hs' he (dn_ok (NIn.of ?_ hs (rel.put k rv) dd'))
  have := length_putN kvs k b v
  omega
theorem n_dictSet {Q : Unit → Shared → Prop} (hu : A.units + 8 < cLine) (I : Inv X pins σ H s) (e : H a = some (dN X.w a kvs)) (ks : KeysN X.K H kvs) (hl : kvs.length < sizeLine) (hk : KeyV X.K H k (.ref b)) (hd : k.depth ≤ 8) (rv : RelV v r)
    (h : ∀ s', Inv X pins σ (upd H a (dN X.w a (putN kvs k b v))) s' → Q () s') : wpAny (model X.prog X.w) A (dictSet a (.ref b) r) Q E s := by
  obtain ⟨z, hs, xs, rel, dd⟩ := dn_rd I (.inl e) ks
  have hz : xs.length ≤ sizeLine := by rw [← Paired.length rel]; exact z
  refine wpAny_dictSet_heap (knd := nestedKind X.prog X.w) (hsz := hz) (nroom0 hu) (nis I hk hd) dd fun h' dd' hs' => h _ ?_
  have he : ∃ q, h'.get? a = some q := let ⟨q, _, _, hq, _⟩ := dd'; ⟨q, hq⟩
  refine d_write I (by rw [e]; exact True.intro) hs' he (dn_ok (NIn.of ?_ hs (rel.put k rv) dd'))
  have := length_putN kvs k b v
  omega
theorem n_delItem {Q : Unit → Shared → Prop} (hu : A.units + 9 < cLine) (I : Inv X pins σ H s) (e : H a = some (dN X.w a kvs)) (ks : KeysN X.K H kvs) (hk : KeyV X.K H k (.ref b)) (hd : k.depth ≤ 8) (hv : (valN kvs k).isSome = true)
    (h : ∀ s', Inv X pins σ (upd H a (dN X.w a (dropN kvs k))) s' → Q () s') : wpAny (model X.prog X.w) A (delItem (.ref a) (.ref b)) Q E s := by
  obtain ⟨z, hs, xs, rel, dd⟩ := dn_rd I (.inl e) ks
  have hz : xs.length ≤ sizeLine := by rw [← Paired.length rel]; exact z
  have q := (rel.val k).isSome_eq
  rw [hv, Option.isSome_map] at q
  obtain ⟨p, hp⟩ := Option.isSome_iff_exists.mp q.symm
  refine wpAny_delItem_heap (knd := nestedKind X.prog X.w) (hsz := hz) (nroom hu) (nis I hk hd) hs dd hp fun h' dd' hs' => h _ ?_
  have he : ∃ q, h'.get? a = some q := let ⟨q, _, _, hq, _⟩ := dd'; ⟨q, hq⟩
  exact d_write I (by rw [e]; exact True.intro) hs' he (dn_ok (NIn.of (Nat.le_trans (length_dropN kvs k) z) hs (rel.drop k) dd'))
theorem n_get2 {y : V} {u : Value} {Q : Value → Shared → Prop} (hu : A.units + 9 < cLine) (I : Inv X pins σ H s) (e : Rd H a (dN X.w a kvs)) (ks : KeysN X.K H kvs) (hk : KeyV X.K H k (.ref b)) (hd : k.depth ≤ 8) (ry : RelV y u)
    (h : ∀ w' s', Inv X pins σ H s' → RelV ((valN kvs k).getD y) w' → Q w' s') : wpAny (model X.prog X.w) A (call (.builtin "dict.get") [.ref a, .ref b, u]) Q E s := by
  obtain ⟨z, hs, xs, rel, dd⟩ := dn_rd I e ks
  refine call_meetsIn PySem.F.slot_dict_get dd.typeIs PySem.F.entry_dict_get (PySem.F.args_dict_get_3 _ _ _) (meetsH_dict_get_default (nestedKind X.prog X.w) a b hs u) ⟨nroom hu, k, xs, (nis I hk hd), dd, h _ _ (I.tok _) ?_⟩
  exact (rel.val k).getD ry
end

/-! ### readings and rules -/
/-- d[y] -/
def tNGet (K : PySem.W.Frag) (w : World) (td ty : TE) : TE := fun σ H Q => td σ H fun x H1 => ty σ H1 fun y H2 => ∃ a b kvs k v, x = .ref a ∧ y = .ref b ∧ Rd H2 a (dN w a kvs) ∧ KeysN K H2 kvs ∧ KeyV K H2 k (.ref b) ∧ k.depth ≤ 8 ∧ valN kvs k = some v ∧ Q v H2
/-- d.get(y, z) -/
def tNGet2 (K : PySem.W.Frag) (w : World) (td ty tz : TE) : TE := fun σ H Q => td σ H fun x H1 => ∃ a kvs, x = .ref a ∧ Rd H1 a (dN w a kvs) ∧ KeysN K H1 kvs ∧ ty σ H1 fun y H2 => tz σ H2 fun z H3 => ∃ b k, y = .ref b ∧ Rd H3 a (dN w a kvs) ∧ KeysN K H3 kvs ∧ KeyV K H3 k (.ref b) ∧ k.depth ≤ 8 ∧ Q ((valN kvs k).getD z) H3
/-- d[y] = v -/
def sNPut (K : PySem.W.Frag) (w : World) (td ty tv : TE) : TS := fun D σ H => tv σ H fun v H1 => td σ H1 fun x H2 => ty σ H2 fun y H3 => ∃ a b kvs k, x = .ref a ∧ y = .ref b ∧ H3 a = some (dN w a kvs) ∧ KeysN K H3 kvs ∧ kvs.length < sizeLine ∧ KeyV K H3 k (.ref b) ∧ k.depth ≤ 8 ∧ D.nx σ (upd H3 a (dN w a (putN kvs k b v)))
/-- del d[y] -/
def sNDel (K : PySem.W.Frag) (w : World) (td ty : TE) : TS := fun D σ H => td σ H fun x H1 => ty σ H1 fun y H2 => ∃ a b kvs k, x = .ref a ∧ y = .ref b ∧ H2 a = some (dN w a kvs) ∧ KeysN K H2 kvs ∧ KeyV K H2 k (.ref b) ∧ k.depth ≤ 8 ∧ (valN kvs k).isSome = true ∧ D.nx σ (upd H2 a (dN w a (dropN kvs k)))
/-- {} -/
def tNNew (w : World) : TE := fun _ H Q => ∀ p, H p = none → Q (.ref p) (upd H p (dN w p []))
def rNLen (K : PySem.W.Frag) (w : World) : List V → Hp → VK → Prop := fun xs H Q => ∃ (p : Addr) (kvs : List NE), xs = [.ref p] ∧ Rd H p (dN w p kvs) ∧ KeysN K H kvs ∧ Q (.int ((kvs.length : Nat) : Int)) H
theorem dn_empty {P : Program} {w : World} {H : Hp} (h : Heap) (hb : sysModules < h.objs.size) : ObjOk P w H (h.push { cls := .type "dict", data := .dict #[] }) h.objs.size (dN w h.objs.size []) :=
  dn_ok ⟨Nat.zero_le _, beq_eq_false_iff_ne.mpr (Ne.symm (Nat.ne_of_lt hb)), [], .nil, _, #[], 0, Heap.get?_push_size _ rfl, ⟨rfl, rfl, rfl⟩, rfl, rfl, List.nodup_nil⟩
section
variable {X : Cx} {o i e f value : Expr} {pos pos' tpos apos cpos : Pos} {td ty tv tx : TE}
theorem dn_type {pins : List (Addr × Obj)} {σ : L2.St} {H : Hp} {s : Shared} {a : Addr} {kvs : List NE} (I : Inv X pins σ H s) (e : Rd H a (dN X.w a kvs)) :
    s.TypeIs (.ref a) "dict" ∧ (∀ b, Value.ref a = .ref b → ∃ ob, s.heap.get? b = some ob ∧ ob.dict = none) ∧ (a == sysModules) = false := by
  obtain ⟨⟨z, y, xs, r, ob, es, ep, h1, h2, h3, h4, h5⟩, _, _⟩ := (show ObjOk X.prog X.w H s.heap a (dN X.w a kvs) from rd_of I.hok e)
  refine ⟨⟨ob, h1, h2.1⟩, fun b q => ?_, y⟩
  cases q
  exact ⟨ob, h1, h2.2.1⟩
theorem pe_nget (hu : X.A.units + 9 < cLine) (ho : PE X o td) (hi : PE X i ty) (hs : NoSl i) : PE X (.Subscript o i pos) (tNGet X.K X.w td ty) := by
  refine ⟨fun pins s σ H Q I h => ?_⟩
  refine subD_of PySem.F.slot_dict_getitem.lookup hs (thn (ho.run pins s σ H _ I h) fun u s1 ⟨x, H1, I1, rx, q1⟩ => thn (hi.run pins s1 σ H1 _ I1 q1) fun iv s2 ⟨y, H2, I2, ry, a, b, kvs, k, v, ex, ey, g, ks, hk, hd, hv, q2⟩ => ?_)
  subst ex ey
  obtain rfl : u = Value.ref a := rx
  obtain rfl : iv = Value.ref b := ry
  exact ⟨(dn_type I2 g).1, n_getItem hu I2 g ks hk hd hv fun w' s3 I3 rw' => ⟨v, H2, I3, rw', q2⟩⟩
theorem ps_nput (hu : X.A.units + 9 < cLine) (ho : PE X o td) (hi : PE X i ty) (hv : PE X value tv) (hs : swapsWith value (some (.Subscript o i pos')) pos.line X.env = pure false) :
    PS X (.Assign [.Subscript o i pos'] value pos) (sNPut X.K X.w td ty tv) := by
  refine ⟨fun pins s σ H D I h => ?_⟩
  refine wpAny_Assign_Subscript (thn (hv.run pins s σ H _ I h) fun r s1 ⟨v, H1, I1, rv, q1⟩ => thn (ho.run pins s1 σ H1 _ I1 q1) fun u s2 ⟨x, H2, I2, rx, q2⟩ => thn (hi.run pins s2 σ H2 _ I2 q2) fun iv s3 ⟨y, H3, I3, ry, a, b, kvs, k, ex, ey, g, ks, hl, hk, hd, q3⟩ => ?_) hs
  subst ex ey
  obtain rfl : u = Value.ref a := rx
  obtain rfl : iv = Value.ref b := ry
  exact n_setItem hu I3 g ks hl hk hd rv fun s4 I4 => ⟨σ, _, I4, q3⟩
theorem ps_ndel (hu : X.A.units + 9 < cLine) (ho : PE X o td) (hi : PE X i ty) : PS X (.Delete [.Subscript o i tpos] pos) (sNDel X.K X.w td ty) := by
  refine ⟨fun pins s σ H D I h => ?_⟩
  refine wpAny_Delete (wpAny_deleteEach_cons (wpAny_delete_Subscript (thn (ho.run pins s σ H _ I h) fun u s1 ⟨x, H1, I1, rx, q1⟩ => thn (hi.run pins s1 σ H1 _ I1 q1) fun iv s2 ⟨y, H2, I2, ry, a, b, kvs, k, ex, ey, g, ks, hk, hd, hv, q2⟩ => ?_)))
  subst ex ey
  obtain rfl : u = Value.ref a := rx
  obtain rfl : iv = Value.ref b := ry
  exact n_delItem hu I2 g ks hk hd hv fun s3 I3 => wpAny_deleteEach_nil ⟨σ, _, I3, q2⟩
theorem pe_nget2 (hu : X.A.units + 9 < cLine) (ho : PE X o td) (he : PE X e ty) (hf : PE X f tx) (m : M2 X o "get" apos e f cpos) : PE X (.Call (.Attribute o "get" apos) [e, f] [] cpos) (tNGet2 X.K X.w td ty tx) := by
  refine ⟨fun pins s σ H Q I h => ?_⟩
  refine wpAny_Call_method m.base m.few m.line PySem.F.plainAttrs_dict PySem.F.slot_dict_get PySem.F.type_dict_get (thn (ho.run pins s σ H _ I h) fun u s1 ⟨x, H1, I1, rx, a, kvs, ex, d, ks, q1⟩ => ?_)
  subst ex
  obtain rfl : u = Value.ref a := rx
  obtain ⟨t1, t2, _⟩ := dn_type I1 d
  refine ⟨t1, t2, ?_⟩
  rw [m.trees]
  refine Calls.callWith_builtin rfl (Calls.evalArgs_plain (Calls.spliced_cons (thn (he.run pins s1 σ H1 _ I1 q1) fun iv s2 ⟨y, H2, I2, ry, q2⟩ =>
    Calls.spliced_cons (thn (hf.run pins s2 σ H2 _ I2 q2) fun fv s3 ⟨z, H3, I3, rz, b, k, ey, g, ks3, hk, hd, q3⟩ => Calls.spliced_nil ?_))))
  subst ey
  obtain rfl : iv = Value.ref b := ry
  exact n_get2 hu I3 g ks3 hk hd rz fun w' s4 I4 rw' => ⟨_, H3, I4, rw', q3⟩
theorem pe_nnew : PE X (.Dict [] [] pos) (tNNew X.w) := ⟨fun pins s σ H Q I h =>
  wpAny_Dict_empty ⟨.ref s.heap.objs.size, _, I.laid (a := s.heap.objs.size) (o := dN X.w s.heap.objs.size []) (t' := s.toks) (fun _ _ q => Heap.get?_push_of_some _ q) (Nat.le_refl _) (dn_empty s.heap I.big), rfl, h _ (I.hok.fresh (Nat.le_refl _))⟩⟩
theorem call_len_dn : CallR X (.builtin "len") (rNLen X.K X.w) := by
  intro pins s σ H xs us Q I r h
  obtain ⟨p, kvs, rfl, hp, ks, q⟩ := h
  obtain ⟨u, rfl, rx⟩ := vals1 r
  obtain rfl : u = .ref p := rx
  obtain ⟨z, hd, ys, rel, dd⟩ := dn_rd I hp ks
  have hl : kvs.length = ys.length := Paired.length rel
  refine call_len_dictH hd dd (by rw [← hl]; rw [sizeLine_eq] at z; omega) ?_
  rw [← hl]
  exact ⟨.int ((kvs.length : Nat) : Int), H, I.tok _, ⟨_, rfl⟩, q⟩
end
end K1D

set_option Elab.async false
set_option linter.all false
set_option maxRecDepth 100000
set_option maxHeartbeats 4000000
/-! Walks over a dict of nested keys: for k in d, d.values(), d.items(). Speaks of no program. -/
namespace K1D
open PySem PySem.Spec PyProof.Rows L2
theorem nr_get {kvs : List NE} {xs : List (NestedKey × Addr × Value)} (h : NR kvs xs) {i : Nat} {x : NE} (e : kvs[i]? = some x) : ∃ u, xs[i]? = some (x.1, x.2.1, u) ∧ RelV x.2.2 u := by
  obtain ⟨b, hb, h1, h2, h3⟩ := paired_get h e
  exact ⟨b.2.2, by rw [hb, h1, h2], h3⟩
section
variable {X : Cx} {pins : List (Addr × Obj)} {σ : L2.St} {H : Hp} {s : Shared} {d : Addr} {o : Obj} {kvs : List NE}
/-- what is known of a locked one -/
theorem Inv.frzN (I : Inv X pins σ H s) (h : H d = some (.frz o (dN X.w d kvs))) :
    (d == sysModules) = false ∧ kvs.length ≤ sizeLine ∧ ∃ (es : Array DictEntry) (ep : Nat), o.data = .dict es ep ∧ s.heap.DictRaw d es ep ∧ es.size = kvs.length ∧
      ∀ (i : Nat) (x : NE) (hi : i < es.size), kvs[i]? = some x → es[i].key = .ref x.2.1 ∧ RelV x.2.2 es[i].val := by
  obtain ⟨hd, ⟨z, hs, xs, r, o', es, ep, ho, hx, hdt, he, _⟩, _⟩ := I.hok d _ h
  rw [hd] at ho
  cases ho
  refine ⟨hs, z, es, ep, hdt, ⟨o, hd, hx, hdt⟩, ?_, fun i x hi e => ?_⟩
  · have l1 : es.toList.length = xs.length := by rw [he, List.length_map]
    have l2 : kvs.length = xs.length := Paired.length r
    rw [Array.length_toList] at l1
    omega
  · obtain ⟨u, hu, ru⟩ := nr_get r e
    have q : es.toList[i]? = some (entN X.w (x.1, x.2.1, u)) := by rw [he, List.getElem?_map, hu]; rfl
    have q2 : es[i] = entN X.w (x.1, x.2.1, u) := by
      rw [List.getElem?_eq_getElem (by simpa using hi)] at q
      simpa using q
    rw [q2]
    exact ⟨rfl, ru⟩
end
/-- the keys of the locked dict at d, in their order: where they stand -/
def Itnk (w : World) (d : Addr) (o : Obj) (kvs : List NE) : It :=
  ⟨fun i H => H d = some (.frz o (dN w d kvs)) ∧ i < kvs.length, fun i H x H' => H' = H ∧ ∃ e, kvs[i]? = some e ∧ x = .ref e.2.1, fun i H => H d = some (.frz o (dN w d kvs)) ∧ kvs.length ≤ i⟩
/-- the values -/
def Itnv (w : World) (d : Addr) (o : Obj) (kvs : List NE) : It :=
  ⟨fun i H => H d = some (.frz o (dN w d kvs)) ∧ i < kvs.length, fun i H x H' => H' = H ∧ ∃ e, kvs[i]? = some e ∧ x = e.2.2, fun i H => H d = some (.frz o (dN w d kvs)) ∧ kvs.length ≤ i⟩
/-- the pairs, each a new tuple -/
def Itni (w : World) (d : Addr) (o : Obj) (kvs : List NE) : It :=
  ⟨fun i H => H d = some (.frz o (dN w d kvs)) ∧ i < kvs.length, fun i H x H' => ∃ T e, kvs[i]? = some e ∧ x = .ref T ∧ H T = none ∧ H' = upd H T (.tup [.ref e.2.1, e.2.2]), fun i H => H d = some (.frz o (dN w d kvs)) ∧ kvs.length ≤ i⟩
section
variable {P : Program} {w : World} {K : PySem.W.Frag} {tg : Expr} {d : Addr} {o : Obj} {es : Array DictEntry} {ep : Nat}
theorem turn_nkeys {kvs : List NE} (it : Addr) (hod : o.data = .dict es ep) (hsz : es.size = kvs.length) : Turn P w K tg (Itnk w d o kvs) [it] it (fun i h => h.IsKeyIter it d i es.size ep) where
  mem := by simp
  obj := fun i h st b hb => by
    have e : b = it := by simpa using hb
    subst e
    obtain ⟨oi, e, c, dd⟩ := st
    exact ⟨oi, e, fun v z => by rw [dd] at z; cases z⟩
  keep := fun i h h' st k => st.at fun oi e => k it (by simp) oi e
  item := by
    intro X hP hw hK hc i pins s σ H E I hf st hg
    subst hP hw hK
    obtain ⟨hd, hi⟩ := hg
    obtain ⟨f0, f1, f2, f3, f4, f5⟩ := hf it (by simp)
    obtain ⟨hs, hz, es', ep', hdt, raw, _, ent⟩ := Inv.frzN I hd
    obtain ⟨rfl, rfl⟩ := dict_ep hod hdt
    have hkv : kvs[i]? = some kvs[i] := List.getElem?_eq_getElem hi
    have hlt : i < es'.size := by rw [hsz]; exact hi
    obtain ⟨hkey, _⟩ := ent i _ hlt hkv
    refine wpAny_pyNext_keys_item_raw st raw hlt fun h' st' sb => ?_
    have I1 : Inv X pins σ H { s with heap := h' } := I.turned (t' := s.toks) (fun b ob hb e => (sb.2 b hb).trans e) f0 f1 f3 f4 f5
    obtain ⟨oi, e, c, dd⟩ := id st'
    exact ⟨es'[i].key, rfl, go_of (s := { s with heap := h' }) e c dd (by decide) ⟨.ref kvs[i].2.1, H, I1, hkey, ⟨rfl, _, hkv, rfl⟩, st', fun b hb => (hf b hb).1⟩⟩
  done := by
    intro X hP hw hK hc i pins s σ H E I hf st hg
    subst hP hw hK
    obtain ⟨hd, hi⟩ := hg
    obtain ⟨f0, f1, f2, f3, f4, f5⟩ := hf it (by simp)
    obtain ⟨hs, hz, es', ep', hdt, raw, _, ent⟩ := Inv.frzN I hd
    obtain ⟨rfl, rfl⟩ := dict_ep hod hdt
    exact wpAny_pyNext_keys_end_raw (I.ok.hd hc) st raw (by rw [hsz]; exact hi) fun h' eb => ⟨rfl, I.turned (t' := s.toks) (fun b ob hb e => eb b ob hb e) f0 f1 f3 f4 f5⟩
  self := fun A i s Q E st h => by
    refine wpAny_pyIter_slot st.typeIs F.slot_dict_keyiterator_iter (wpAny_call_entry F.slot_dict_keyiterator_iter st.typeIs F.entry_dict_keyiterator_iter ?_ (F.args_dict_keyiterator_iter_1 _))
    show wpAny _ _ (ret (.ref it)) _ _ s
    exact wpAny_pure ⟨_, rfl, "dict_keyiterator", _, st.typeIs, F.slot_dict_keyiterator_next.lookup, h⟩
theorem turn_nvals {kvs : List NE} (it : Addr) (hod : o.data = .dict es ep) (hsz : es.size = kvs.length) : Turn P w K tg (Itnv w d o kvs) [it] it (fun i h => h.IsValIter it d i es.size ep) where
  mem := by simp
  obj := fun i h st b hb => by
    have e : b = it := by simpa using hb
    subst e
    obtain ⟨oi, e, c, dd⟩ := st
    exact ⟨oi, e, fun v z => by rw [dd] at z; cases z⟩
  keep := fun i h h' st k => st.at fun oi e => k it (by simp) oi e
  item := by
    intro X hP hw hK hc i pins s σ H E I hf st hg
    subst hP hw hK
    obtain ⟨hd, hi⟩ := hg
    obtain ⟨f0, f1, f2, f3, f4, f5⟩ := hf it (by simp)
    obtain ⟨hs, hz, es', ep', hdt, raw, _, ent⟩ := Inv.frzN I hd
    obtain ⟨rfl, rfl⟩ := dict_ep hod hdt
    have hkv : kvs[i]? = some kvs[i] := List.getElem?_eq_getElem hi
    have hlt : i < es'.size := by rw [hsz]; exact hi
    obtain ⟨_, hval⟩ := ent i _ hlt hkv
    refine wpAny_pyNext_values_item_raw st raw hlt fun h' st' sb => ?_
    have I1 : Inv X pins σ H { s with heap := h' } := I.turned (t' := s.toks) (fun b ob hb e => (sb.2 b hb).trans e) f0 f1 f3 f4 f5
    obtain ⟨oi, e, c, dd⟩ := id st'
    exact ⟨es'[i].val, rfl, go_of (s := { s with heap := h' }) e c dd (by decide) ⟨kvs[i].2.2, H, I1, hval, ⟨rfl, _, hkv, rfl⟩, st', fun b hb => (hf b hb).1⟩⟩
  done := by
    intro X hP hw hK hc i pins s σ H E I hf st hg
    subst hP hw hK
    obtain ⟨hd, hi⟩ := hg
    obtain ⟨f0, f1, f2, f3, f4, f5⟩ := hf it (by simp)
    obtain ⟨hs, hz, es', ep', hdt, raw, _, ent⟩ := Inv.frzN I hd
    obtain ⟨rfl, rfl⟩ := dict_ep hod hdt
    exact wpAny_pyNext_values_end_raw (I.ok.hd hc) st raw (by rw [hsz]; exact hi) fun h' eb => ⟨rfl, I.turned (t' := s.toks) (fun b ob hb e => eb b ob hb e) f0 f1 f3 f4 f5⟩
  self := fun A i s Q E st h => wpAny_pyIter_valiter st h
theorem turn_nitems {kvs : List NE} {elts : List Expr} {kk : Nat} {tpos : Pos} (it : Addr) (hod : o.data = .dict es ep) (hsz : es.size = kvs.length) :
    Turn P w K (.Tuple elts kk tpos) (Itni w d o kvs) [it] it (fun i h => ∃ ok ov, IsItemIter h it d i es.size ep ok ov) where
  mem := by simp
  obj := fun i h st b hb => by
    have e : b = it := by simpa using hb
    subst e
    obtain ⟨ok, ov, e⟩ := st
    exact ⟨_, e, fun v z => nomatch z⟩
  keep := fun i h h' st k => let ⟨ok, ov, e⟩ := st; ⟨ok, ov, k it (by simp) _ e⟩
  item := by
    intro X hP hw hK hc i pins s σ H E I hf st hg
    subst hP hw hK
    obtain ⟨hd, hi⟩ := hg
    obtain ⟨hs, hz, es', ep', hdt, raw, _, ent⟩ := Inv.frzN I hd
    obtain ⟨rfl, rfl⟩ := dict_ep hod hdt
    have hkv : kvs[i]? = some kvs[i] := List.getElem?_eq_getElem hi
    have hlt : i < es'.size := by rw [hsz]; exact hi
    obtain ⟨hkey, hval⟩ := ent i _ hlt hkv
    obtain ⟨ok, ov, he⟩ := st
    have hlt' : it < s.heap.objs.size := Heap.lt_size he
    refine wpAny_pyNext_items_item_raw he raw hlt fun h' ho hT hz' hk => ?_
    refine ⟨_, rfl, wpAny_letOwnedTupleGo_items (s := { s with heap := h' }) ho fun h'' he' sb => ?_⟩
    have hT2 : h''.get? s.heap.objs.size = some { cls := .type "tuple", data := .seq #[es'[i].key, es'[i].val] } := (sb.2 _ (Nat.ne_of_gt hlt')).trans hT
    have new : ObjOk X.prog X.w (upd H s.heap.objs.size (.tup [.ref kvs[i].2.1, kvs[i].2.2])) h'' s.heap.objs.size (.tup [.ref kvs[i].2.1, kvs[i].2.2]) :=
      ⟨by show 2 ≤ sizeLine; decide, [es'[i].key, es'[i].val], .cons hkey (.cons hval .nil), ⟨_, hT2, rfl, _, rfl⟩⟩
    have I1 : Inv X pins σ (upd H s.heap.objs.size (.tup [.ref kvs[i].2.1, kvs[i].2.2])) { s with heap := h'' } :=
      I.turnedNew (t' := s.toks) (ch := [it]) (fun b ob hb e => (sb.2 b (by simpa using hb)).trans (hk b ob (by simpa using hb) e)) hf (Nat.le_refl _) new
    refine ⟨.ref s.heap.objs.size, _, I1, rfl, ⟨_, _, hkv, rfl, I.hok.fresh (Nat.le_refl _), rfl⟩, ⟨es'[i].key, es'[i].val, he'⟩, fun b hb => ?_⟩
    have e : b = it := by simpa using hb
    rw [e, upd_ne (Nat.ne_of_lt hlt')]
    exact (hf it (by simp)).1
  done := by
    intro X hP hw hK hc i pins s σ H E I hf st hg
    subst hP hw hK
    obtain ⟨hd, hi⟩ := hg
    obtain ⟨f0, f1, f2, f3, f4, f5⟩ := hf it (by simp)
    obtain ⟨hs, hz, es', ep', hdt, raw, _, ent⟩ := Inv.frzN I hd
    obtain ⟨rfl, rfl⟩ := dict_ep hod hdt
    obtain ⟨ok, ov, he⟩ := st
    exact wpAny_pyNext_items_end_raw (I.ok.hd hc) he raw (by rw [hsz]; exact hi) fun h' eb => ⟨rfl, I.turned (t' := s.toks) (fun b ob hb e => eb b ob hb e) f0 f1 f3 f4 f5⟩
  self := fun A i s Q E st h => let ⟨_, _, e⟩ := st; PySem.W.kcp_self e h
end
/-- the dict is locked -/
def iNKeys (w : World) (td : TE) : TI := fun σ H R => td σ H fun x H1 => ∃ d o kvs, x = .ref d ∧ H1 d = some (.frz o (dN w d kvs)) ∧ R (Itnk w d o kvs) H1
def iNVals (w : World) (td : TE) : TI := fun σ H R => td σ H fun x H1 => ∃ d o kvs, x = .ref d ∧ H1 d = some (.frz o (dN w d kvs)) ∧ R (Itnv w d o kvs) H1
def iNItems (w : World) (td : TE) : TI := fun σ H R => td σ H fun x H1 => ∃ d o kvs, x = .ref d ∧ H1 d = some (.frz o (dN w d kvs)) ∧ R (Itni w d o kvs) H1
section
variable {X : Cx} {tg e : Expr} {td : TE} {apos cpos : Pos}
theorem pi_nkeys (he : PE X e td) : PI X tg e (iNKeys X.w td) := by
  refine ⟨fun pins s σ H R I h => ?_⟩
  refine thn (he.run pins s σ H _ I h) fun u s1 ⟨x, H1, I1, rx, d, o, kvs, ex, hd, q⟩ => ?_
  subst ex
  obtain rfl : u = Value.ref d := rx
  obtain ⟨hs, hz, es, ep, hdt, raw, hsz, ent⟩ := Inv.frzN I1 hd
  exact wpAny_pyIter_dict_raw hs raw (pi_one (tk := s1.toks) I1 _ (turn_nkeys _ hdt hsz) ⟨_, Heap.get?_push_size _ rfl, rfl, rfl⟩ q)
theorem pi_nvalues (he : PE X e td) (hbase : attributeBase e "values" X.env (eval e X.env) = eval e X.env := by rfl) (hline : (apos.endLine == cpos.line) = true := by rfl) : PI X tg (.Call (.Attribute e "values" apos) [] [] cpos) (iNVals X.w td) := by
  refine ⟨fun pins s σ H R I h => ?_⟩
  refine wpAny_Call_method (T := "dict") (id := "dict.values") hbase rfl hline F.plainAttrs_dict F.slot_dict_values F.type_dict_values (thn (he.run pins s σ H _ I h) fun u s1 ⟨x, H1, I1, rx, d, o, kvs, ex, hd, q⟩ => ?_)
  subst ex
  obtain rfl : u = Value.ref d := rx
  obtain ⟨hs, hz, es, ep, hdt, raw, hsz, ent⟩ := Inv.frzN I1 hd
  refine ⟨raw.typeIs, fun b q => ?_, ?_⟩
  · cases q
    obtain ⟨ob, h1, h2, _⟩ := raw
    exact ⟨ob, h1, h2.2.1⟩
  have I2 : Inv X pins σ H1 { s1 with heap := s1.heap.push { cls := .type "dict_values", data := .fields #[.ref d] } } := I1.kept (t' := s1.toks) fun b ob q => Heap.get?_push_of_some _ q
  have fin : wpAny (model X.prog X.w) X.A (pyIter (.ref s1.heap.objs.size)) (PIE X pins σ tg R) X.xe { s1 with heap := s1.heap.push { cls := .type "dict_values", data := .fields #[.ref d] } } :=
    wpAny_pyIter_values_raw (d := d) ⟨_, Heap.get?_push_size _ rfl, rfl, rfl⟩ (raw.at fun o q => Heap.get?_push_of_some _ q) (pi_one (tk := s1.toks) I2 _ (turn_nvals _ hdt hsz) ⟨_, Heap.get?_push_size _ rfl, rfl, rfl⟩ q)
  show wpAny _ _ (callWith cpos (.builtin "dict.values") [.ref d] [] []) _ X.xe s1
  exact method_meetsIn F.slot_dict_values F.entry_dict_values rfl (PySem.evalArgs_none ⟨rfl, raw.typeIs, F.args_dict_values_1 _, _, meets_dict_values_raw d hs, ⟨es, ep, raw⟩, fin⟩)
theorem pi_nitems {elts : List Expr} {kk : Nat} {tpos : Pos} (he : PE X e td) (hbase : attributeBase e "items" X.env (eval e X.env) = eval e X.env := by rfl) (hline : (apos.endLine == cpos.line) = true := by rfl) :
    PI X (.Tuple elts kk tpos) (.Call (.Attribute e "items" apos) [] [] cpos) (iNItems X.w td) := by
  refine ⟨fun pins s σ H R I h => ?_⟩
  refine wpAny_Call_method (T := "dict") (id := "dict.items") hbase rfl hline F.plainAttrs_dict F.slot_dict_items F.type_dict_items (thn (he.run pins s σ H _ I h) fun u s1 ⟨x, H1, I1, rx, d, o, kvs, ex, hd, q⟩ => ?_)
  subst ex
  obtain rfl : u = Value.ref d := rx
  obtain ⟨hs, hz, es, ep, hdt, raw, hsz, ent⟩ := Inv.frzN I1 hd
  refine ⟨raw.typeIs, fun b q => ?_, ?_⟩
  · cases q
    obtain ⟨ob, h1, h2, _⟩ := raw
    exact ⟨ob, h1, h2.2.1⟩
  have I2 : Inv X pins σ H1 { s1 with heap := s1.heap.push { cls := .type "dict_items", data := .fields #[.ref d] } } := I1.kept (t' := s1.toks) fun b ob q => Heap.get?_push_of_some _ q
  have fin : wpAny (model X.prog X.w) X.A (pyIter (.ref s1.heap.objs.size)) (PIE X pins σ (.Tuple elts kk tpos) R) X.xe { s1 with heap := s1.heap.push { cls := .type "dict_items", data := .fields #[.ref d] } } := 
    wpAny_pyIter_items_raw (d := d) ⟨_, Heap.get?_push_size _ rfl, rfl, rfl⟩ (raw.at fun o q => Heap.get?_push_of_some _ q) (pi_one (tk := s1.toks) I2 _ (turn_nitems _ hdt hsz) ⟨.none, .none, Heap.get?_push_size _ rfl⟩ q)
  show wpAny _ _ (callWith cpos (.builtin "dict.items") [.ref d] [] []) _ X.xe s1
  exact method_meetsIn F.slot_dict_items F.entry_dict_items rfl (PySem.evalArgs_none ⟨rfl, raw.typeIs, F.args_dict_items_1 _, _, meets_dict_items_raw d hs, ⟨es, ep, raw⟩, fin⟩)
end
end K1D

set_option Elab.async false
set_option linter.all false
set_option maxRecDepth 100000
set_option maxHeartbeats 4000000
/-! {k: v for .. in ..} where the keys are nested. Speaks of no program. -/
namespace K1D
open PySem PySem.Spec PyProof.Rows L2
/-- what one pair does to the new dict at D -/
def PutAt (K : PySem.W.Frag) (w : World) (D : Addr) (y z : V) (G : Hp) (go : Hp → Prop) : Prop :=
  ∃ kvs k b, y = .ref b ∧ G D = some (dN w D kvs) ∧ KeysN K G kvs ∧ kvs.length < sizeLine ∧ KeyV K G k (.ref b) ∧ k.depth ≤ 8 ∧ go (upd G D (dN w D (putN kvs k b z)))
/-- {k: v for target in iter if ..}: D the new dict -/
def tNDc (K : PySem.W.Frag) (w : World) (wi : TI) (g : TG) (tt : TT) (tk tv : TE) (vs : List Nat) : TE := fun σ H Q => wi σ H fun J G => ∀ D, G D = none →
  ∃ W : Nat → Nat → Hp → Prop, (∃ m, W 0 m (upd G D (dN w D []))) ∧ ∀ i m F, W i m F →
    (J.stop i F ∧ Q (.ref D) F) ∨
    (J.go i F ∧ ∃ Nx : Hp → Prop, (∀ F', Nx F' → ∃ m', m' < m ∧ W (i + 1) m' F') ∧ ∀ x F', J.yld i F x F' → g x (wipe σ vs) F' fun σ2 F2 => wipe σ2 vs = wipe σ vs ∧ tt σ2 F2 fun b F3 =>
      if b = true then tk σ2 F3 fun y F4 => tv σ2 F4 fun z F5 => PutAt K w D y z F5 Nx else Nx F3)
section
variable {X : Cx}
theorem ndc_core {pn : List (Addr × Obj)} {s : Shared} {τ : L2.St} {H : Hp} {Q : VK} {kx vx tg iter : Expr} {ifs : List Expr} {scope : Scope} {own : List (Str × Nat)} {pos pos' : Pos} {wi : TI} {g : TG} {tt : TT} {tk tv : TE} {use : Option (Value → Sem Unit)} {Qf : Value → Shared → Prop}
    (hu : X.A.units + 8 < cLine) (hc : X.calm = true) (hN : X.N.Nodup) (I : Inv X pn τ H s) (hi : PI X tg iter wi) (ok : BlkOk X.N X.env.scope scope own)
    (hg : ∀ (s : Shared) (H : Hp) (C : Addr) (cl : List (Str × Addr)) (fp : List Addr), PG (X.blk s H scope (compEnvC scope cl C X.env) fp) tg g)
    (ht : ∀ (s : Shared) (H : Hp) (C : Addr) (cl : List (Str × Addr)) (fp : List Addr), PTs (X.blk s H scope (compEnvC scope cl C X.env) fp) ifs tt)
    (hk : ∀ (s : Shared) (H : Hp) (C : Addr) (cl : List (Str × Addr)) (fp : List Addr), PE (X.blk s H scope (compEnvC scope cl C X.env) fp) kx tk)
    (hv : ∀ (s : Shared) (H : Hp) (C : Addr) (cl : List (Str × Addr)) (fp : List Addr), PE (X.blk s H scope (compEnvC scope cl C X.env) fp) vx tv)
    (hs : ∀ x, foldedSetIterable iter X.env x = pure x) (h : tNDc X.K X.w wi g tt tk tv (own.map (·.2)) τ H Q)
    (back : ∀ D C s' m G, Inv X pn τ G s' → Q (.ref D) G → s'.heap.Ns C m → FpOk X pn G C → compPost (model X.prog X.w) X.A X.xe use Qf (.ref D) C (.ok .next) s') :
    wpAny (model X.prog X.w) X.A (comprehension (.DictComp kx vx [⟨tg, iter, ifs, 0⟩] scope pos) scope X.env pos' newDict false (eval iter X.env) use) Qf X.xe s := by
  have free : ∀ y ∈ scope.names, y.2 = .free → ∃ c, X.env.cells.lookup y.1 = some c := fun y hy e => (ok.free y hy e).elim (fun k => I.ok.has _ (.inl k)) fun k => I.ok.has _ (.inr k)
  refine wpAny_comprehension_free (use := use) rfl hs (closure_ok free) ok.kind (fun y hy e => by rw [ok.uniq y hy, e]) ?_
  refine thn (hi.run pn s τ H _ I h) fun xv s1 got => thn got fun itv s2 z => ?_
  obtain ⟨it, fp, tn, J, G, rfl, I2, T, sa, fa, turn0⟩ := z
  refine wpAny_newObj_type (newEnv_comp ?_)
  generalize hD : s2.heap.objs.size = D
  obtain ⟨W, ⟨m0, w0⟩, turn⟩ := turn0 D (I2.hok.fresh (Nat.le_of_eq hD))
  generalize e3 : ({ s2 with heap := s2.heap.push { cls := .type "dict", data := .dict #[] } } : Shared) = s3
  have p3 : s3.heap = s2.heap.push { cls := .type "dict", data := .dict #[] } := by rw [← e3]
  have I3 : Inv X pn τ (upd G D (dN X.w D [])) s3 := by
    rw [← e3]
    refine I2.laid (t' := s2.toks) (fun b o q => Heap.get?_push_of_some _ q) (Nat.le_of_eq hD) ?_
    rw [← hD]
    exact dn_empty s2.heap I2.big
  have low : ∀ b ∈ fp, b < s2.heap.objs.size := fun b hb => let ⟨o, q, _⟩ := T.obj _ _ sa b hb; Heap.lt_size q
  have fb : ∀ b ∈ fp, FpOk X pn (upd G D (dN X.w D [])) b ∧ b < s3.heap.objs.size := fun b hb => by
    have lt := low b hb
    refine ⟨⟨?_, (fa b hb).2⟩, by rw [p3, Heap.size_push]; exact Nat.lt_succ_of_lt lt⟩
    rw [upd_ne (by rw [← hD]; exact Nat.ne_of_lt lt)]
    exact (fa b hb).1
  have sb : tn 0 s3.heap := T.keep _ _ _ sa fun b _ o q => by rw [p3]; exact Heap.get?_push_of_some _ q
  have I4 := block_start I3 ok hN fb
  -- the block's own context
  let cl := cellsFrom (s3.heap.objs.size + 1) scope.names (cloFrom X.env.cells scope.names [])
  have rg := hg s3 (upd G D (dN X.w D [])) s3.heap.objs.size cl fp
  have rt := ht s3 (upd G D (dN X.w D [])) s3.heap.objs.size cl fp
  have rk := hk s3 (upd G D (dN X.w D [])) s3.heap.objs.size cl fp
  have rv := hv s3 (upd G D (dN X.w D [])) s3.heap.objs.size cl fp
  show codeAny _ _ (.compStart (.DictComp kx vx [⟨tg, iter, ifs, 0⟩] scope pos) 0 (.ref it) (.ref D) (compEnvC scope cl s3.heap.objs.size X.env)) (compPost (model X.prog X.w) X.A X.xe use Qf (.ref D) s3.heap.objs.size) { s3 with heap := pushCells (s3.heap.push { cls := .type "dict", data := .dict #[] }) scope.names }
  generalize hce : compEnvC scope cl s3.heap.objs.size X.env = ce at I4 rg rt rk rv ⊢
  have cL : ce.locals = s3.heap.objs.size := by subst hce; rfl
  have nfp : ∀ b ∈ fp, (upd G D (dN X.w D [])) b = none := fun b hb => (fb b hb).1.1
  generalize hG3 : upd G D (dN X.w D []) = G3 at I3 I4 rg rt rk rv w0 nfp fb
  generalize e4 : ({ s3 with heap := pushCells (s3.heap.push { cls := .type "dict", data := .dict #[] }) scope.names } : Shared) = s4 at I4 ⊢
  have sc : tn 0 s4.heap := T.keep _ _ _ sb fun b _ o q => by rw [← e4]; exact pushCells_keeps _ _ _ _ (Heap.get?_push_of_some _ q)
  have apart : ∀ {τ' : L2.St} {F : Hp} {s' : Shared}, Inv (X.blk s3 G3 scope ce fp) [] τ' F s' → (∀ b ∈ fp, F b = none) → ∀ b ∈ fp, FpOk (X.blk s3 G3 scope ce fp) [] F b := fun {τ' F s'} J' hn b hb =>
    ⟨hn b hb, (J'.ok.exf b hb).1, J'.ok.exfs b hb, .inl hb, fun x c q => (J'.ok.exf b hb).2 x c q, fun p hp => absurd (show p ∈ ([] : List (Addr × Obj)) ++ [] from hp) (by simp)⟩
  refine codeAny_compStart_dict ?loop (T.self X.A 0 _ _ _ sc ?loop)
  refine compLoop_anyD (fun n s' => ∃ i F, Inv (X.blk s3 G3 scope ce fp) [] (wipe τ (own.map (·.2))) F s' ∧ tn i s'.heap ∧ (∀ b ∈ fp, F b = none) ∧ W i n F) ?_ m0 ⟨0, G3, I4, sc, nfp, w0⟩
  rintro n s5 ⟨i, F5, I5, s5a, n5, w5⟩
  rcases turn i n F5 w5 with ⟨halt, fin0⟩ | ⟨go, Nx, less, step⟩
  · -- no further one: back in the def
    refine thnF (T.done (X.blk s3 G3 scope ce fp) rfl rfl rfl hc i [] s5 _ F5 (fun _ _ => False) I5 (apart I5 n5) s5a halt) fun r s6 ⟨hr, I6⟩ => ?_
    subst hr
    have I7 : Inv X pn τ F5 s6 := I3.call' (ch := fp) I6.os I6.base I6.hok I6.bare fun b hb => let ⟨_, q1, q2, q3, q4, q5⟩ := (fb b hb).1; ⟨q3, q1, q4, q5⟩
    have nC : F5 s3.heap.objs.size = none := by
      rw [← cL]
      exact I6.free
    obtain ⟨m, hn, _⟩ := I6.loc
    have hn' : s6.heap.Ns ce.locals m := hn
    rw [cL] at hn'
    exact back D s3.heap.objs.size s6 m F5 I7 fin0 hn' (I3.fpOk (Nat.le_refl _) nC)
  · refine thnF (T.item (X.blk s3 G3 scope ce fp) rfl rfl rfl hc i [] s5 _ F5 (fun _ _ => False) I5 (apart I5 n5) s5a go) fun r s6 ⟨u, hr, h6⟩ => ?_
    subst hr
    refine thnF h6 fun _ s7 ⟨x, F7, I7, r7, y7, s7a, n7⟩ => ?_
    have I7' := I7.pinned (apart I7 n7) (T.obj _ _ s7a)
    refine thnF (rg.run _ s7 _ F7 x u _ I7' r7 (step x F7 y7)) fun _ s8 ⟨τ8, F8, I8, hw8, q8⟩ => ?_
    refine thnF (rt.run _ s8 τ8 F8 _ I8 q8) fun b s9 ⟨F9, I9, q9⟩ => ?_
    have fin : ∀ {s' : Shared} {F' : Hp}, Inv (X.blk s3 G3 scope ce fp) ([] ++ pinsAt fp s7.heap) τ8 F' s' → Nx F' → ∃ m, m < n ∧ ∃ i F', Inv (X.blk s3 G3 scope ce fp) [] (wipe τ (own.map (·.2))) F' s' ∧ tn i s'.heap ∧ (∀ b ∈ fp, F' b = none) ∧ W i m F' := fun {s' F'} J' nx => by
      obtain ⟨m', lt, w'⟩ := less F' nx
      have pin' : ∀ b ∈ fp, ∀ o, s7.heap.get? b = some o → s'.heap.get? b = some o ∧ F' b = none := fun b hb o q =>
        let z := J'.pin (b, o) (List.mem_append_right _ (List.mem_append_right _ (mem_pinsAt hb q)))
        ⟨z.1, z.2.1⟩
      have hl : (wipe τ (own.map (·.2))).length = τ8.length := by rw [← hw8, wipe_length]
      refine ⟨m', lt, i + 1, F', (J'.unpinned (pins := [])).weak hl (fun j v q => ?_), T.keep _ _ _ s7a fun b hb o q => (pin' b hb o q).1, fun b hb => ?_, w'⟩
      · rw [← hw8] at q
        exact (wipe_some q).1
      · obtain ⟨o, q, _⟩ := T.obj _ _ s7a b hb
        exact (pin' b hb o q).2
    cases b with
    | false =>
      simp only [Bool.false_eq_true, if_false] at q9 ⊢
      exact fin I9 q9
    | true =>
      simp only [if_true] at q9 ⊢
      refine thnF (rk.run _ s9 τ8 F9 _ I9 q9) fun kw s10 ⟨y, F10, I10, r10, q10⟩ => ?_
      refine thnF (rv.run _ s10 τ8 F10 _ I10 q10) fun vw s11 ⟨z, F11, I11, r11, kvs, k, p, ey, hat, ks, lt, key, dep, nx⟩ => ?_
      subst ey
      obtain rfl : kw = Value.ref p := r10
      exact n_dictSet (X := X.blk s3 G3 scope ce fp) hu I11 hat ks lt key dep r11 fun s12 I12 => fin I12 nx
theorem pe_ndc {kx vx tg iter : Expr} {ifs : List Expr} {scope : Scope} {own : List (Str × Nat)} {pos : Pos} {wi : TI} {g : TG} {tt : TT} {tk tv : TE} (hu : X.A.units + 8 < cLine) (hc : X.calm = true) (hN : X.N.Nodup) (hi : PI X tg iter wi) (ok : BlkOk X.N X.env.scope scope own)
    (hg : ∀ (s : Shared) (H : Hp) (C : Addr) (cl : List (Str × Addr)) (fp : List Addr), PG (X.blk s H scope (compEnvC scope cl C X.env) fp) tg g)
    (ht : ∀ (s : Shared) (H : Hp) (C : Addr) (cl : List (Str × Addr)) (fp : List Addr), PTs (X.blk s H scope (compEnvC scope cl C X.env) fp) ifs tt)
    (hk : ∀ (s : Shared) (H : Hp) (C : Addr) (cl : List (Str × Addr)) (fp : List Addr), PE (X.blk s H scope (compEnvC scope cl C X.env) fp) kx tk)
    (hv : ∀ (s : Shared) (H : Hp) (C : Addr) (cl : List (Str × Addr)) (fp : List Addr), PE (X.blk s H scope (compEnvC scope cl C X.env) fp) vx tv) (hs : ∀ x, foldedSetIterable iter X.env x = pure x := by intro _; rfl) :
    PE X (.DictComp kx vx [⟨tg, iter, ifs, 0⟩] scope pos) (tNDc X.K X.w wi g tt tk tv (own.map (·.2))) := ⟨fun pn s τ H Q I h => by
  rw [arm_eval_DictComp]
  refine ndc_core hu hc hN I hi ok hg ht hk hv hs h fun D C s' m G I' q hn ⟨f0, f1, f2, f3, f4, f5⟩ => ⟨m, hn, fun h2 same => ?_⟩
  exact ⟨.ref D, G, I'.turned (t' := s'.toks) (fun b o hb e => (same.2 b hb).trans e) f0 f1 f3 f4 f5, rfl, q⟩⟩

/-- name = {..} on one line, the name a local -/
theorem ps_setNdc {i : Nat} {y : Str} {py : Pos} {kx vx tg iter : Expr} {ifs : List Expr} {scope : Scope} {own : List (Str × Nat)} {pos sp : Pos} {wi : TI} {g : TG} {tt : TT} {tk tv : TE} (hu : X.A.units + 8 < cLine) (hc : X.calm = true) (hN : X.N.Nodup) (hy : X.N[i]? = some y) (loc : X.env.scope.names.lookup y = some .local)
    (sw : swapsWith (.DictComp kx vx [⟨tg, iter, ifs, 0⟩] scope pos) (some (.Name y py)) sp.line X.env = pure true) (hi : PI X tg iter wi) (ok : BlkOk X.N X.env.scope scope own)
    (hg : ∀ (s : Shared) (H : Hp) (C : Addr) (cl : List (Str × Addr)) (fp : List Addr), PG (X.blk s H scope (compEnvC scope cl C X.env) fp) tg g)
    (ht : ∀ (s : Shared) (H : Hp) (C : Addr) (cl : List (Str × Addr)) (fp : List Addr), PTs (X.blk s H scope (compEnvC scope cl C X.env) fp) ifs tt)
    (hk : ∀ (s : Shared) (H : Hp) (C : Addr) (cl : List (Str × Addr)) (fp : List Addr), PE (X.blk s H scope (compEnvC scope cl C X.env) fp) kx tk)
    (hv : ∀ (s : Shared) (H : Hp) (C : Addr) (cl : List (Str × Addr)) (fp : List Addr), PE (X.blk s H scope (compEnvC scope cl C X.env) fp) vx tv) (hs : ∀ x, foldedSetIterable iter X.env x = pure x := by intro _; rfl) :
    PS X (.Assign [.Name y py] (.DictComp kx vx [⟨tg, iter, ifs, 0⟩] scope pos) sp) (tAsg (tNDc X.K X.w wi g tt tk tv (own.map (·.2))) (gName i)) := ⟨fun pn s τ H D I h => by
  rw [exec_Assign_Name_used _ _ _ _ sw]
  refine wpAny_bind (wpAny_standAt (wpAny_bind ?_))
  have h' : tNDc X.K X.w wi g tt tk tv (own.map (·.2)) τ H (fun x G => gName i x τ G D.nx) := h
  show wpAny _ X.A (do let _ ← comprehension (.DictComp kx vx [⟨tg, iter, ifs, 0⟩] scope pos) scope X.env (firstIterPos [⟨tg, iter, ifs, 0⟩] pos) newDict false (eval iter X.env) (some (assign (.Name y py) X.env))) _ _ s
  refine wpAny_bind (thn (ndc_core (Qf := fun _ s' => SP X pn D .next s') hu hc hN I hi ok hg ht hk hv hs h' fun L C s' m G I' q hn ⟨f0, f1, f2, f3, f4, f5⟩ => ?_) fun _ s' hq => wpAny_pure (wpAny_pure hq))
  show wpAny _ _ (assign (.Name y py) X.env (.ref L)) _ _ _
  refine wpAny_assign_Name (store_ok2 (v := V.ref L) I' hN hy (.inl loc) rfl (fun s2 I2 ⟨a, same, ha⟩ => ?_) (.inr loc))
  have ne : C ≠ a := ha.elim (fun z => by rw [z]; exact f1) fun z q => f4 y a z q.symm
  exact ⟨m, hn.sameBut same ne, fun h3 sm3 => ⟨_, G, I2.turned (t' := s2.toks) (fun b o hb e => (sm3.2 b hb).trans e) f0 f1 f3 f4 f5, q⟩⟩⟩

/-! ### the loops -/
/-- a block over n things, of any iterator that knows its turns -/
theorem blk_n {J : It} {n : Nat} {G : Hp} {o : Addr → HO} {D : Addr} {Qd : Hp → Prop} {body : V → Hp → (Hp → Prop) → Prop} (Pv : Nat → Hp → Prop) (h0 : Pv 0 (upd G D (o D))) (go : ∀ i F, i < n → Pv i F → J.go i F) (halt : ∀ F, Pv n F → J.stop n F)
    (hs : ∀ i F x F', i < n → Pv i F → J.yld i F x F' → body x F' (Pv (i + 1))) (hd : ∀ F, Pv n F → Qd F) :
    ∃ W : Nat → Nat → Hp → Prop, (∃ m, W 0 m (upd G D (o D))) ∧ ∀ i m F, W i m F → (J.stop i F ∧ Qd F) ∨ (J.go i F ∧ ∃ Nx : Hp → Prop, (∀ F', Nx F' → ∃ m', m' < m ∧ W (i + 1) m' F') ∧ ∀ x F', J.yld i F x F' → body x F' Nx) := by
  refine ⟨fun i m F => m = n - i ∧ i ≤ n ∧ Pv i F, ⟨n, (Nat.sub_zero n).symm, Nat.zero_le _, h0⟩, ?_⟩
  rintro i m F ⟨rfl, hi, p⟩
  rcases Nat.lt_or_ge i n with lt | ge
  · exact .inr ⟨go i F lt p, Pv (i + 1), fun F' p' => ⟨n - (i + 1), by omega, rfl, lt, p'⟩, fun x F' y => hs i F x F' lt p y⟩
  · obtain rfl : i = n := by omega
    exact .inl ⟨halt F p, hd F p⟩
/-- a for statement over n things -/
theorem for_n {J : It} {n : Nat} {g : TG} {tb : TS} {D : Ends} {σ : L2.St} {H : Hp} (Pv : Nat → L2.St → Hp → Prop) (h0 : Pv 0 σ H) (go : ∀ i σ F, i < n → Pv i σ F → J.go i F) (halt : ∀ σ F, Pv n σ F → J.stop n F)
    (hs : ∀ i σ F x F', i < n → Pv i σ F → J.yld i F x F' → g x σ F' fun σ2 H2 => tb { D with nx := Pv (i + 1), ct := Pv (i + 1), bk := D.nx } σ2 H2) (hd : ∀ σ F, Pv n σ F → D.nx σ F) :
    ∃ W : Nat → Nat → L2.St → Hp → Prop, (∃ m, W 0 m σ H) ∧ ∀ i m σ F, W i m σ F →
      (J.stop i F ∧ D.nx σ F) ∨ (J.go i F ∧ ∃ N : L2.St → Hp → Prop, (∀ σ' F', N σ' F' → ∃ m', m' < m ∧ W (i + 1) m' σ' F') ∧ ∀ x F', J.yld i F x F' → g x σ F' fun σ2 H2 => tb { D with nx := N, ct := N, bk := D.nx } σ2 H2) := by
  refine ⟨fun i m σ F => m = n - i ∧ i ≤ n ∧ Pv i σ F, ⟨n, (Nat.sub_zero n).symm, Nat.zero_le _, h0⟩, ?_⟩
  rintro i m σ F ⟨rfl, hi, p⟩
  rcases Nat.lt_or_ge i n with lt | ge
  · exact .inr ⟨go i σ F lt p, Pv (i + 1), fun σ' F' p' => ⟨n - (i + 1), by omega, rfl, lt, p'⟩, fun x F' y => hs i σ F x F' lt p y⟩
  · obtain rfl : i = n := by omega
    exact .inl ⟨halt σ F p, hd σ F p⟩
end
end K1D

set_option Elab.async false
set_option linter.all false
set_option maxRecDepth 100000
set_option maxHeartbeats 4000000
/-! list(d) and sorted(d.items()) of a dict with nested keys. Speaks of no program. -/
namespace K1D
open PySem PySem.Spec PyProof.Rows L2
section
variable {X : Cx} {pn : List (Addr × Obj)} {σ : L2.St} {H : Hp} {s : Shared}
mutual
/-- read as data: no list on the way -/
theorem KeyV.reads (I : Inv X pn σ H s) : ∀ (k : NestedKey) (v : V) (u : Value), KeyV X.K H k v → RelV v u → Reads s.heap u k.data []
  | .none, _, _, h, r => by cases h; cases r; exact Reads.none
  | .num i, _, _, h, r => by
    cases h
    obtain ⟨t, rfl⟩ := r
    exact Reads.int i t
  | .text x, _, _, h, r => by
    cases h
    obtain ⟨t, rfl⟩ := r
    exact Reads.str x t
  | .tup ks, _, _, h, r => by
    cases h with
    | tup h1 h2 =>
      cases r
      obtain ⟨its, rv, ⟨o, ho, hc, n, hd⟩, _⟩ := I.tuple (SqT.of h1)
      exact Reads.tuple ho hc hd (KeyVs.reads I ks _ _ h2 rv)
theorem KeyVs.reads (I : Inv X pn σ H s) : ∀ (ks : List NestedKey) (vs : List V) (us : List Value), KeyVs X.K H ks vs → Vals vs us → ReadsAll s.heap us (NestedKey.datas ks) []
  | [], _, _, h, r => by cases h; cases r; exact ReadsAll.nil
  | k :: ks, _, _, h, r => by
    cases h with
    | cons h1 h2 =>
      cases r with
      | cons r1 r2 => exact ReadsAll.cons (KeyV.reads I k _ _ h1 r1) (KeyVs.reads I ks _ _ h2 r2)
end
/-! reading off a heap that keeps all objects -/
mutual
theorem Reads.kept0 {h h' : Heap} (kp : ∀ b o, h.get? b = some o → h'.get? b = some o) : ∀ (k : NestedKey) (u : Value), Reads h u k.data [] → Reads h' u k.data []
  | .none, _, r => by cases r; exact Reads.none
  | .num i, _, r => by cases r; exact Reads.int i _
  | .text x, _, r => by cases r; exact Reads.str x _
  | .tup ks, _, r => by
    have r' : Reads h _ (.tuple (NestedKey.datas ks)) [] := r
    cases r' with
    | tuple h1 h2 h3 h4 => exact Reads.tuple (kp _ _ h1) h2 h3 (ReadsAll.kept0 kp ks _ h4)
theorem ReadsAll.kept0 {h h' : Heap} (kp : ∀ b o, h.get? b = some o → h'.get? b = some o) : ∀ (ks : List NestedKey) (us : List Value), ReadsAll h us (NestedKey.datas ks) [] → ReadsAll h' us (NestedKey.datas ks) []
  | [], _, r => by
    have r' : ReadsAll h _ [] [] := r
    cases r'
    exact ReadsAll.nil
  | k :: ks, us, r => by
    have r' : ReadsAll h us (k.data :: NestedKey.datas ks) [] := r
    generalize hz : ([] : List Addr) = z at r'
    cases r' with
    | @cons v vs d ds as bs h1 h2 =>
      have e1 : as = [] := (List.append_eq_nil_iff.mp hz.symm).1
      have e2 : bs = [] := (List.append_eq_nil_iff.mp hz.symm).2
      subst e1 e2
      exact ReadsAll.cons (Reads.kept0 kp k _ h1) (ReadsAll.kept0 kp ks _ h2)
end
end
section
variable {X : Cx}
/-- list(d) -/
theorem call_list_dN (hc : X.calm = true) : CallR X (.type "list") (fun xs H Q => ∃ d kvs, xs = [V.ref d] ∧ Rd H d (dN X.w d kvs) ∧ ∀ p, H p = none → Q (.ref p) (upd H p (.lst (kvs.map fun x => V.ref x.2.1)))) := by
  intro pn s σ H xs us Q I r h
  obtain ⟨d, kvs, rfl, hd, q⟩ := h
  obtain ⟨u, rfl, rx⟩ := r.one
  cases rx
  obtain ⟨⟨z, hs, ks, rel, o, es, ep, ho, hx, hdt, he, _⟩, _⟩ := (show ObjOk X.prog X.w H s.heap d (dN X.w d kvs) from hd.ok I.hok)
  have l1 : es.toList.length = ks.length := by rw [he, List.length_map]
  rw [Array.length_toList] at l1
  have l2 : kvs.length = ks.length := Paired.length rel
  refine PySem.W.kdl_call (kdl_raw hs hx hdt) (I.ok.hd hc) ho (by omega) fun h' tk acc' c' kp e it => ?_
  have ent : ∀ (j : Nat) (en : DictEntry), es[j]? = some en → ∃ x : NE, kvs[j]? = some x ∧ en.key = Value.ref x.2.1 := by
    intro j en hj
    rw [← Array.getElem?_toList, he, List.getElem?_map] at hj
    obtain ⟨b, hb, eb⟩ := Option.map_eq_some_iff.mp hj
    have hjl : j < kvs.length := by rw [l2]; exact (List.getElem?_eq_some_iff.mp hb).1
    obtain ⟨u, hu, _⟩ := nr_get rel (List.getElem?_eq_getElem hjl)
    rw [hb] at hu
    refine ⟨_, List.getElem?_eq_getElem hjl, ?_⟩
    rw [← eb, Option.some.inj hu]
    all_goals rfl
  have ea : acc'.toList = (kvs.map fun x => x.2.1).map Value.ref := by
    have hl : acc'.toList.length = kvs.length := by rw [Array.length_toList, it.1]; omega
    apply List.ext_getElem?
    intro j
    rw [List.getElem?_map, List.getElem?_map]
    cases hj : acc'.toList[j]? with
    | none =>
      have h1 := List.getElem?_eq_none_iff.mp hj
      rw [List.getElem?_eq_none (by omega)]
      all_goals rfl
    | some v =>
      obtain ⟨en, hen, hv⟩ := it.2 j v (by rw [← Array.getElem?_toList]; exact hj)
      obtain ⟨x, hx', hk⟩ := ent j en hen
      rw [hx', hv, hk]
      all_goals rfl
  have rv : Vals ((kvs.map fun x => x.2.1).map V.ref) acc'.toList := by rw [ea]; exact vals_refs _
  have em : ((kvs.map fun x => x.2.1).map V.ref) = kvs.map fun x => V.ref x.2.1 := by rw [List.map_map]; all_goals rfl
  rw [em] at rv
  refine ⟨.ref s.heap.objs.size, _, I.laid (t' := tk) (o := .lst (kvs.map fun x => V.ref x.2.1)) kp (Nat.le_refl _) ?_, rfl, q _ (I.hok.fresh (Nat.le_refl _))⟩
  exact ⟨by rw [List.length_map]; exact z, acc'.toList, c', rv, by rw [Array.toArray_toList]; exact e⟩

/-! ### sorted(d.items()) -/
mutual
theorem key_depth : ∀ k : NestedKey, k.data.depth = k.depth
  | .none => rfl
  | .num _ => rfl
  | .text _ => rfl
  | .tup ks => by
    show PyData.depth (.tuple (NestedKey.datas ks)) = _
    simp only [PyData.depth, NestedKey.depth, keys_depth ks]
theorem keys_depth : ∀ ks : List NestedKey, PyData.depthAll (NestedKey.datas ks) = NestedKey.depthAll ks
  | [] => rfl
  | k :: ks => by
    show PyData.depthAll (k.data :: NestedKey.datas ks) = _
    simp only [PyData.depthAll, NestedKey.depthAll, key_depth k, keys_depth ks]
end
/-- the pairs of a dict whose values are ints -/
abbrev NI := NestedKey × Int
def pairK (x : NI) : NestedKey := .tup [x.1, .num x.2]
/-- d's pairs in their order, the places of the keys left out -/
def IntsN (kvs : List NE) (m : List NI) : Prop := kvs.map (fun x => (x.1, x.2.2)) = m.map fun x => (x.1, V.int x.2)
def rItemsN (w : World) : V → List V → Hp → VK → Prop := fun x xs H Q => ∃ (a : Addr) (kvs : List NE), x = .ref a ∧ xs = [] ∧ Rd H a (dN w a kvs) ∧ ∀ p, H p = none → Q (.ref p) (upd H p (DX.itemsO p a))
theorem mt_itemsN : MtR X "dict.items" (rItemsN X.w) := by
  intro pn s σ H x xs v us Q I rx rxs h
  obtain ⟨a, kvs, rfl, rfl, ha, q⟩ := h
  cases rx
  cases rxs
  obtain ⟨⟨z, hd, xs', rel, o, es, ep, ho, hx, hdat, _⟩, _⟩ := (show ObjOk X.prog X.w H s.heap a (dN X.w a kvs) from ha.ok I.hok)
  refine DT.callItems (es := es) (ep := ep) hd ⟨o, ho, hx, hdat⟩ ?_
  exact ⟨.ref s.heap.objs.size, _, I.laid (t' := s.toks) (fun b u e => Heap.get?_push_of_some _ e) (Nat.le_refl _) (DX.itemsO_ok (Heap.get?_push_size _ rfl)), rfl, q _ (I.hok.fresh (Nat.le_refl _))⟩
/-- sorted(d.items()), the values ints, the keys of one kind: the pairs, rising -/
def rSortN (K : PySem.W.Frag) (w : World) : List V → Hp → VK → Prop := fun vs H Q => ∃ (p a : Addr) (kvs : List NE) (m : List NI), vs = [.ref p] ∧ H p = some (DX.itemsO p a) ∧ Rd H a (dN w a kvs) ∧ KeysN K H kvs ∧ IntsN kvs m ∧
  (∀ x ∈ m, ∀ y ∈ m, PySem.W.alike x.1.data y.1.data = true) ∧
  ∀ (H' : Hp) (l : Addr) (xs : List V), (∀ b o, H b = some o → H' b = some o) → H' l = some (.lst xs) → KeyVs K H' ((m.mergeSort (PySem.W.dataLe false fun x => (pairK x).data)).map pairK) xs → Q (.ref l) H'
theorem ints_len {kvs : List NE} {m : List NI} (h : IntsN kvs m) : kvs.length = m.length := by
  have := congrArg List.length h
  simpa using this
theorem ints_at {kvs : List NE} {m : List NI} (h : IntsN kvs m) {j : Nat} {x : NE} (e : kvs[j]? = some x) : ∃ c, m[j]? = some (x.1, c) ∧ x.2.2 = V.int c := by
  have q : (kvs.map fun x => (x.1, x.2.2))[j]? = (m.map fun x => (x.1, V.int x.2))[j]? := by rw [h]
  rw [List.getElem?_map, List.getElem?_map, e] at q
  cases hm : m[j]? with
  | none => rw [hm] at q; cases q
  | some y =>
    rw [hm] at q
    have q2 : (x.1, x.2.2) = (y.1, V.int y.2) := Option.some.inj q
    obtain ⟨q3, q4⟩ := Prod.mk.inj q2
    exact ⟨y.2, by rw [q3], q4⟩
theorem each_of {α β : Type} {R : α → β → Prop} : ∀ {as : List α} {bs : List β}, as.length = bs.length → (∀ (j : Nat) (a : α) (b : β), as[j]? = some a → bs[j]? = some b → R a b) → PySem.W.EachIs R as bs
  | [], [], _, _ => .nil
  | a :: as, b :: bs, hl, h => .cons (h 0 a b rfl rfl) (each_of (by simpa using hl) fun j x y hx hy => h (j + 1) x y hx hy)
  | [], _ :: _, hl, _ => by simp at hl
  | _ :: _, [], hl, _ => by simp at hl
/-- the places of the items -/
theorem each_addr {β : Type} {T : Addr → β → Prop} : ∀ {vs : List Value} {bs : List β}, PySem.W.EachIs (fun v y => ∃ b : Addr, v = .ref b ∧ T b y) vs bs → ∃ cs : List Addr, vs = cs.map Value.ref ∧ PySem.W.EachIs T cs bs
  | _, _, .nil => ⟨[], rfl, .nil⟩
  | _, _, .cons ⟨c, e, hc⟩ t => by
    obtain ⟨cs, ecs, ht⟩ := each_addr t
    exact ⟨c :: cs, by rw [e, ecs]; rfl, .cons hc ht⟩
theorem each_keys {K : PySem.W.Frag} {H : Hp} {β : Type} (f : β → NestedKey) : ∀ {cs : List Addr} {bs : List β}, PySem.W.EachIs (fun c y => KeyV K H (f y) (.ref c)) cs bs → KeyVs K H (bs.map f) (cs.map V.ref)
  | _, _, .nil => .nil
  | _, _, .cons h t => .cons h (each_keys f t)
end
section
variable {X : Cx}
theorem cr_sortN (hc : X.calm = true) (hu : X.A.units + 64 < cLine) : CallR X (.builtin "sorted") (rSortN X.K X.w) := by
  intro pn s σ H xs us Q I r h
  obtain ⟨p, a, kvs, m, rfl, hp, ha, ks, hm, al, q⟩ := h
  obtain rfl := Vals.ref1 r
  have view : s.heap.IsItemsView p a := (show ObjOk X.prog X.w H s.heap p (DX.itemsO p a) from I.hok p _ hp).1
  obtain ⟨⟨z, hd, xs', rel, o, es, ep, ho, hx, hdat, he, _⟩, _⟩ := (show ObjOk X.prog X.w H s.heap a (dN X.w a kvs) from ha.ok I.hok)
  have l1 : es.toList.length = xs'.length := by rw [he, List.length_map]
  rw [Array.length_toList] at l1
  have l2 : kvs.length = xs'.length := Paired.length rel
  have l3 := ints_len hm
  refine DT.sortedI (es := es) (ep := ep) (I.ok.hd hc) view ⟨o, ho, hx, hdat⟩ (by omega) fun h' tk as hk hlt hl hG => ?_
  have nd : as.Nodup := List.Pairwise.imp (fun h => Nat.ne_of_lt h) hG.rise
  have lam : as.length = m.length := by omega
  -- each pair that was made
  have pr : ∀ (j : Nat) (b : Addr) (y : NI), as[j]? = some b → m[j]? = some y → ∃ (kq : Addr) (t : Tok), KeyV X.K H y.1 (.ref kq) ∧ y.1.depth ≤ 8 ∧ h'.get? b = some { cls := .type "tuple", data := .seq #[Value.ref kq, Value.int y.2 t] } := by
    intro j b y hj hy
    obtain ⟨en, hen, hg⟩ := hG.pairs j b hj
    have hjl : j < kvs.length := by rw [l3]; exact (List.getElem?_eq_some_iff.mp hy).1
    have hkv : kvs[j]? = some kvs[j] := List.getElem?_eq_getElem hjl
    obtain ⟨u, hxu, ru⟩ := nr_get rel hkv
    obtain ⟨c, hc', hv⟩ := ints_at hm hkv
    rw [hy] at hc'
    have ey : y = (kvs[j].1, c) := Option.some.inj hc'
    rw [hv] at ru
    obtain ⟨t, rfl⟩ := ru
    rw [← Array.getElem?_toList, he, List.getElem?_map, hxu] at hen
    have een : entN X.w (kvs[j].1, kvs[j].2.1, Value.int c t) = en := Option.some.inj hen
    obtain ⟨k1, k2⟩ := ks _ (List.getElem_mem hjl)
    refine ⟨kvs[j].2.1, t, by rw [ey]; exact k1, by rw [ey]; exact k2, ?_⟩
    rw [hg, ← een, ey]
    all_goals rfl
  have hob : (h'.push { cls := .type "list", data := .seq (as.map Value.ref).toArray }).get? h'.objs.size = some (seqObj "list" (as.map Value.ref).toArray 0) := Heap.get?_push_size _ rfl
  have ka : ∀ b o, h'.get? b = some o → (h'.push { cls := .type "list", data := .seq (as.map Value.ref).toArray }).get? b = some o := fun b o e => Heap.get?_push_of_some _ e
  have ne0 : ∀ b o, h'.get? b = some o → b ≠ h'.objs.size := fun b o e => Nat.ne_of_lt (Heap.lt_size e)
  generalize hh2 : h'.push { cls := .type "list", data := .seq (as.map Value.ref).toArray } = h2 at hob ka ⊢
  have kb : ∀ b o, s.heap.get? b = some o → h2.get? b = some o := fun b o e => ka b o (hk b o e)
  -- what an item stands for
  let Rt : Value → NI → Prop := fun v y => ∃ (j : Nat) (b : Addr), v = .ref b ∧ as[j]? = some b ∧ m[j]? = some y
  have e1 : PySem.W.EachIs Rt (as.map Value.ref) m := each_of (by rw [List.length_map]; exact lam) fun j v y hv hy => by
    rw [List.getElem?_map] at hv
    obtain ⟨b, hb, rfl⟩ := Option.map_eq_some_iff.mp hv
    exact ⟨j, b, rfl, hb, hy⟩
  have e2 : PySem.W.EachIs (fun v y => ∃ as', Reads h2 v (pairK y).data as' ∧ h'.objs.size ∉ as') (as.map Value.ref) m := e1.mono fun v y ⟨j, b, ev, hb, hy⟩ => by
    obtain ⟨kq, t, k1, k2, hg⟩ := pr j b y hb hy
    subst ev
    have r1 : Reads h2 (.ref kq) y.1.data [] := Reads.kept0 kb y.1 _ (k1.reads I _ _ _ rfl)
    have r2 : ReadsAll h2 [Value.ref kq, Value.int y.2 t] [y.1.data, .int y.2] [] := ReadsAll.cons r1 (ReadsAll.cons (Reads.int y.2 t) ReadsAll.nil)
    exact ⟨[], Reads.tuple (ka _ _ hg) rfl rfl r2, by simp⟩
  have hal : PySem.W.AllAlike (m.map fun x => (pairK x).data) := by
    intro d1 h1 d2 h2'
    obtain ⟨y1, m1, rfl⟩ := List.mem_map.mp h1
    obtain ⟨y2, m2, rfl⟩ := List.mem_map.mp h2'
    show PySem.W.alike (.tuple [y1.1.data, .int y1.2]) (.tuple [y2.1.data, .int y2.2]) = true
    simp only [PySem.W.alike, PySem.W.alikeAll, al y1 m1 y2 m2, Bool.and_self]
  have dep : ∀ y ∈ m, (pairK y).data.depth ≤ 9 := by
    intro y hy
    obtain ⟨j, hj⟩ := List.mem_iff_getElem?.mp hy
    have hjl : j < as.length := by rw [lam]; exact (List.getElem?_eq_some_iff.mp hj).1
    obtain ⟨_, _, _, k2, _⟩ := pr j _ y (List.getElem?_eq_getElem hjl) hj
    have e : ∀ k : NestedKey, k.data.depth = k.depth := key_depth
    show (PyData.tuple [y.1.data, .int y.2]).depth ≤ 9
    simp only [PyData.depth, PyData.depthAll, e]
    omega
  refine PySem.W.list_sort_data (s := { s with heap := h2, toks := tk }) hob e1 e2 hal (PySem.W.Sortable.tuples fun y => ⟨_, _, rfl⟩) (by omega) (fun y hy => ?_) fun out ol oe => ?_
  · have := dep y hy
    rw [Around.in1_units]
    omega
  · show EP X pn σ Q (.ref h'.objs.size) { s with heap := sortedHeap h2 h'.objs.size (as.map Value.ref) out.toArray, toks := tk }
    have kF : ∀ b o, b ≠ h'.objs.size → h2.get? b = some o → (sortedHeap h2 h'.objs.size (as.map Value.ref) out.toArray).get? b = some o := fun b o hb e => (PyProof.Rows.sortedHeap_old hb (Heap.lt_size e)).trans e
    have kS : ∀ b o, s.heap.get? b = some o → (sortedHeap h2 h'.objs.size (as.map Value.ref) out.toArray).get? b = some o := fun b o e => kF b o (ne0 _ _ (hk b o e)) (kb b o e)
    obtain ⟨eF, heF⟩ := PyProof.Rows.sortedHeap_at (vs := as.map Value.ref) (out := out.toArray) hob
    generalize hF : sortedHeap h2 h'.objs.size (as.map Value.ref) out.toArray = hf at kF kS heF ⊢
    have I1 : Inv X pn σ H { s with heap := hf, toks := tk } := I.kept (t' := tk) kS
    have hn0 : H h'.objs.size = none := I.hok.fresh (Nat.le_of_lt hlt)
    obtain ⟨cs, ecs, ecm⟩ := each_addr (T := fun b y => ∃ j : Nat, as[j]? = some b ∧ m[j]? = some y) (oe.mono fun v y ⟨j, b, ev, hb, hy⟩ => ⟨b, ev, j, hb, hy⟩)
    have lcs : cs.length = m.length := by rw [ecm.length, List.length_mergeSort]
    have I2 : Inv X pn σ (upd H h'.objs.size (.lst (cs.map V.ref))) { s with heap := hf, toks := tk } :=
      I1.take (h' := hf) (t' := tk) (fun b ob _ e => e) (I.fpOk (Nat.le_of_lt hlt) hn0) ⟨by rw [List.length_map]; omega, out, eF, by rw [ecs]; exact vals_refs _, heF⟩
    obtain ⟨H2, I3, g, qt⟩ := DX.takeT (P := fun b vs => ∃ (j : Nat) (y : NI) (kq : Addr), as[j]? = some b ∧ m[j]? = some y ∧ vs = [.ref kq, .int y.2] ∧ KeyV X.K H y.1 (.ref kq)) I as _ I2 nd fun b hb => by
      obtain ⟨j, hj⟩ := List.mem_iff_getElem?.mp hb
      have hjl : j < m.length := by rw [← lam]; exact (List.getElem?_eq_some_iff.mp hj).1
      have hy : m[j]? = some m[j] := List.getElem?_eq_getElem hjl
      obtain ⟨kq, t, k1, _, hg⟩ := pr j b _ hj hy
      have hbl : s.heap.objs.size ≤ b := Nat.le_of_lt (hG.above b hb)
      refine ⟨hbl, ?_, [.ref kq, .int m[j].2], ⟨j, m[j], kq, hj, hy, rfl, k1⟩, fun H3 => ⟨(by rw [sizeLine_eq]; show 2 ≤ 16777216; omega), [Value.ref kq, Value.int m[j].2 t], .cons rfl (.cons ⟨t, rfl⟩ .nil), ⟨_, kF _ _ (ne0 _ _ hg) (ka _ _ hg), rfl, 0, rfl⟩⟩⟩
      rw [upd_ne (ne0 _ _ hg)]
      exact I.hok.fresh hbl
    have gr : ∀ b o, H b = some o → H2 b = some o := fun b o e => g b o (by rw [upd_ne (ne_of_none e hn0)]; exact e)
    refine ⟨.ref h'.objs.size, H2, I3, rfl, q H2 h'.objs.size (cs.map V.ref) gr (g _ _ upd_same) (each_keys pairK (ecm.mono fun b y ⟨j, hb, hy⟩ => ?_))⟩
    obtain ⟨vs, ⟨j', y', kq, j1, j2, ev, k1⟩, hH⟩ := qt b (List.mem_of_getElem? hb)
    have eij : j = j' := (List.getElem?_inj (List.getElem?_eq_some_iff.mp hb).1 nd).mp (hb.trans j1.symm)
    subst eij
    have ee : y' = y := Option.some.inj (j2.symm.trans hy)
    rw [ee] at ev k1
    rw [ev] at hH
    exact .tup hH (.cons (k1.up (Tups.ext gr) _ _) (.cons (.int y.2) .nil))
end
/-- d.items(), a view -/
def tNItems (w : World) (td : TE) : TE := fun σ H Q => td σ H fun x G => ∃ (d : Addr) (kvs : List NE), x = .ref d ∧ Rd G d (dN w d kvs) ∧ ∀ p, G p = none → Q (.ref p) (upd G p (DX.itemsO p d))
theorem pe_nitemsV {X : Cx} {e : Expr} {td : TE} {ap cp : Pos} (he : PE X e td) (hbase : attributeBase e "items" X.env (eval e X.env) = eval e X.env := by rfl) (hline : (ap.endLine == cp.line) = true := by rfl) :
    PE X (.Call (.Attribute e "items" ap) [] [] cp) (tNItems X.w td) := ⟨fun pn s τ H Q I h => by
  refine wpAny_Call_method (T := "dict") (id := "dict.items") hbase rfl hline F.plainAttrs_dict F.slot_dict_items F.type_dict_items (thn (he.run pn s τ H _ I h) fun u s1 ⟨x, G, I1, rx, d, kvs, ex, hd, q⟩ => ?_)
  subst ex
  obtain rfl : u = Value.ref d := rx
  obtain ⟨⟨z, hs, xs', rel, o, es, ep, ho, hx, hdat, _⟩, _⟩ := (show ObjOk X.prog X.w G s1.heap d (dN X.w d kvs) from hd.ok I1.hok)
  have raw : s1.heap.DictRaw d es ep := ⟨o, ho, hx, hdat⟩
  refine ⟨raw.typeIs, fun b q => ?_, ?_⟩
  · cases q
    exact ⟨o, ho, hx.2.1⟩
  show wpAny _ _ (callWith cp (.builtin "dict.items") [.ref d] [] []) _ X.xe s1
  refine method_meetsIn F.slot_dict_items F.entry_dict_items rfl (PySem.evalArgs_none ⟨rfl, raw.typeIs, F.args_dict_items_1 _, _, meets_dict_items_raw d hs, ⟨es, ep, raw⟩, ?_⟩)
  exact ⟨.ref s1.heap.objs.size, _, I1.laid (t' := s1.toks) (fun b u e => Heap.get?_push_of_some _ e) (Nat.le_refl _) (DX.itemsO_ok (Heap.get?_push_size _ rfl)), rfl, q _ (I1.hok.fresh (Nat.le_refl _))⟩⟩
end K1D

set_option Elab.async false
set_option linter.all false
set_option maxRecDepth 100000
set_option maxHeartbeats 4000000
/-! Dicts of nested keys whose values are ints, and lists of such pairs. Speaks of no program. -/
namespace K1D
open PySem PySem.Spec PyProof.Rows L2
def valI (m : List NI) (k : NestedKey) : Option Int := (m.find? fun x => decide (x.1 = k)).map (·.2)
def putI (m : List NI) (k : NestedKey) (c : Int) : List NI := if (valI m k).isSome then m.map fun x => if x.1 = k then (x.1, c) else x else m ++ [(k, c)]
def dropI (m : List NI) (k : NestedKey) : List NI := m.filter fun x => decide (x.1 ≠ k)
def keysI (m : List NI) : List NestedKey := m.map (·.1)
theorem ints_nil {m : List NI} (h : IntsN [] m) : m = [] := by
  cases m with
  | nil => rfl
  | cons x r => cases h
theorem ints_cons {x : NE} {kvs : List NE} {m : List NI} (h : IntsN (x :: kvs) m) : ∃ c r, m = (x.1, c) :: r ∧ x.2.2 = V.int c ∧ IntsN kvs r := by
  cases m with
  | nil => cases h
  | cons y r =>
    have h' : (x.1, x.2.2) :: kvs.map (fun x => (x.1, x.2.2)) = (y.1, V.int y.2) :: r.map fun x => (x.1, V.int x.2) := h
    injection h' with h1 h2
    obtain ⟨h3, h4⟩ := Prod.mk.inj h1
    exact ⟨y.2, r, by rw [h3], h4, h2⟩
theorem ints_mk {x : NE} {kvs : List NE} {c : Int} {m : List NI} (e : x.2.2 = V.int c) (h : IntsN kvs m) : IntsN (x :: kvs) ((x.1, c) :: m) := by
  show (x.1, x.2.2) :: kvs.map (fun x => (x.1, x.2.2)) = (x.1, V.int c) :: m.map fun x => (x.1, V.int x.2)
  rw [e, show kvs.map (fun x => (x.1, x.2.2)) = m.map fun x => (x.1, V.int x.2) from h]
theorem ints_val : ∀ {kvs : List NE} {m : List NI}, IntsN kvs m → ∀ k, valN kvs k = (valI m k).map V.int
  | [], m, h, k => by rw [ints_nil h]; rfl
  | x :: kvs, m, h, k => by
    obtain ⟨c, r, rfl, e, t⟩ := ints_cons h
    have ih := ints_val t k
    unfold valN valI at *
    rw [List.find?_cons, List.find?_cons]
    by_cases z : x.1 = k
    · rw [decide_eq_true z]
      simp [e]
    · rw [decide_eq_false z]
      exact ih
theorem ints_repl (k : NestedKey) (c : Int) : ∀ {kvs : List NE} {m : List NI}, IntsN kvs m → IntsN (kvs.map fun x => if x.1 = k then (x.1, x.2.1, V.int c) else x) (m.map fun x => if x.1 = k then (x.1, c) else x)
  | [], m, h => by rw [ints_nil h]; rfl
  | x :: kvs, m, h => by
    obtain ⟨c', r, rfl, e, t⟩ := ints_cons h
    rw [List.map_cons, List.map_cons]
    by_cases z : x.1 = k
    · rw [if_pos z, if_pos (show ((x.1, c') : NI).1 = k from z)]
      exact ints_mk (x := (x.1, x.2.1, V.int c)) rfl (ints_repl k c t)
    · rw [if_neg z, if_neg (show ¬ ((x.1, c') : NI).1 = k from z)]
      exact ints_mk e (ints_repl k c t)
theorem ints_app : ∀ {kvs ls : List NE} {m n : List NI}, IntsN kvs m → IntsN ls n → IntsN (kvs ++ ls) (m ++ n) := fun {kvs ls m n} h g => by
  show (kvs ++ ls).map _ = (m ++ n).map _
  rw [List.map_append, List.map_append]
  exact congr (congrArg _ h) g
theorem ints_put {kvs : List NE} {m : List NI} (h : IntsN kvs m) (k : NestedKey) (b : Addr) (c : Int) : IntsN (putN kvs k b (.int c)) (putI m k c) := by
  unfold putN putI
  rw [ints_val h k, Option.isSome_map]
  split
  · exact ints_repl k c h
  · exact ints_app h (ints_mk (x := (k, b, V.int c)) rfl rfl)
theorem ints_drop (k : NestedKey) : ∀ {kvs : List NE} {m : List NI}, IntsN kvs m → IntsN (dropN kvs k) (dropI m k)
  | [], m, h => by rw [ints_nil h]; rfl
  | x :: kvs, m, h => by
    obtain ⟨c, r, rfl, e, t⟩ := ints_cons h
    unfold dropN dropI
    rw [List.filter_cons, List.filter_cons]
    by_cases z : x.1 = k
    · rw [if_neg (by simp [z]), if_neg (by simp [z])]
      exact ints_drop k t
    · rw [if_pos (by simp [z]), if_pos (by simp [z])]
      exact ints_mk e (ints_drop k t)
/-! ### the lists alone -/
theorem valI_nil (k : NestedKey) : valI [] k = none := rfl
theorem valI_cons (x : NI) (m : List NI) (k : NestedKey) : valI (x :: m) k = if x.1 = k then some x.2 else valI m k := by
  unfold valI
  rw [List.find?_cons]
  by_cases z : x.1 = k
  · rw [decide_eq_true z, if_pos z]; rfl
  · rw [decide_eq_false z, if_neg z]
theorem valI_none {m : List NI} {k : NestedKey} : valI m k = none ↔ k ∉ keysI m := by
  induction m with
  | nil => simp [valI, keysI]
  | cons x m ih =>
    rw [valI_cons]
    unfold keysI at *
    rw [List.map_cons, List.mem_cons]
    by_cases z : x.1 = k
    · rw [if_pos z]; simp [z]
    · rw [if_neg z, ih]
      constructor
      · intro h q
        rcases q with q | q
        · exact z q.symm
        · exact h q
      · intro h q
        exact h (.inr q)
theorem valI_mem {m : List NI} (nd : (keysI m).Nodup) {k : NestedKey} {c : Int} : valI m k = some c ↔ (k, c) ∈ m := by
  induction m with
  | nil => simp [valI]
  | cons x m ih =>
    have nd' : x.1 ∉ keysI m ∧ (keysI m).Nodup := List.nodup_cons.mp nd
    rw [valI_cons, List.mem_cons]
    by_cases z : x.1 = k
    · rw [if_pos z]
      constructor
      · intro h
        exact .inl (Prod.ext z.symm (Option.some.inj h).symm)
      · intro h
        rcases h with h | h
        · rw [← h]
        · exact absurd (show x.1 ∈ keysI m from by rw [z]; exact List.mem_map.mpr ⟨_, h, rfl⟩) nd'.1
    · rw [if_neg z, ih nd'.2]
      constructor
      · exact .inr
      · intro h
        rcases h with h | h
        · exact absurd (by rw [← h]) z
        · exact h
theorem valI_put (m : List NI) (k : NestedKey) (c : Int) (j : NestedKey) : valI (putI m k c) j = if j = k then some c else valI m j := by
  unfold putI
  by_cases s : (valI m k).isSome = true
  · rw [if_pos s]
    have key : ∀ l : List NI, (valI l k).isSome = true ∨ j ≠ k → valI (l.map fun x => if x.1 = k then (x.1, c) else x) j = if j = k then some c else valI l j := by
      intro l
      induction l with
      | nil =>
        intro h
        rcases h with h | h
        · cases h
        · rw [if_neg h]; rfl
      | cons x l ih =>
        intro h
        rw [List.map_cons, valI_cons, valI_cons]
        by_cases z : x.1 = k
        · rw [if_pos z]
          by_cases y : j = k
          · rw [if_pos y, if_pos (by rw [z, y])]
          · rw [if_neg y, if_neg (by rw [z]; exact fun q => y q.symm), if_neg (by rw [z]; exact fun q => y q.symm), ih (.inr y), if_neg y]
        · rw [if_neg z]
          by_cases y : j = k
          · rw [if_pos y, if_neg (by rw [y]; exact z), ih (by
              rw [valI_cons, if_neg z] at h
              exact h), if_pos y]
          · rw [if_neg y]
            by_cases u : x.1 = j
            · rw [if_pos u, if_pos u]
            · rw [if_neg u, if_neg u, ih (.inr y), if_neg y]
    exact key m (.inl s)
  · rw [if_neg s]
    have sn : valI m k = none := by
      cases h : valI m k with
      | none => rfl
      | some v => rw [h] at s; exact absurd rfl s
    have key : ∀ l : List NI, valI (l ++ [(k, c)]) j = (valI l j).or (if j = k then some c else none) := by
      intro l
      induction l with
      | nil =>
        rw [List.nil_append, valI_cons]
        by_cases y : j = k
        · rw [if_pos y, if_pos (show ((k, c) : NI).1 = j from y.symm)]; rfl
        · rw [if_neg y, if_neg (show ¬ ((k, c) : NI).1 = j from fun q => y q.symm)]; rfl
      | cons x l ih =>
        rw [List.cons_append, valI_cons, valI_cons]
        by_cases u : x.1 = j
        · rw [if_pos u, if_pos u]; rfl
        · rw [if_neg u, if_neg u, ih]
    rw [key m]
    by_cases y : j = k
    · rw [if_pos y, if_pos y, y, sn]; rfl
    · rw [if_neg y, if_neg y]
      cases valI m j <;> rfl
theorem valI_drop (m : List NI) (k j : NestedKey) : valI (dropI m k) j = if j = k then none else valI m j := by
  induction m with
  | nil => rw [show dropI [] k = [] from rfl, valI_nil]; split <;> rfl
  | cons x m ih =>
    unfold dropI at *
    rw [List.filter_cons]
    by_cases z : x.1 = k
    · rw [if_neg (by simp [z]), ih, valI_cons]
      by_cases y : j = k
      · rw [if_pos y, if_pos y]
      · rw [if_neg y, if_neg y, if_neg (by rw [z]; exact fun q => y q.symm)]
    · rw [if_pos (by simp [z]), valI_cons, valI_cons, ih]
      by_cases y : j = k
      · rw [if_pos y, if_pos y, if_neg (by rw [y]; exact z)]
      · rw [if_neg y, if_neg y]
theorem keysI_put (m : List NI) (k : NestedKey) (c : Int) : keysI (putI m k c) = if (valI m k).isSome then keysI m else keysI m ++ [k] := by
  unfold putI keysI
  split
  · rw [List.map_map]
    refine List.map_congr_left fun x hx => ?_
    show (if x.1 = k then (x.1, c) else x).1 = x.1
    split <;> rfl
  · rw [List.map_append]; rfl
theorem nodup_put {m : List NI} (nd : (keysI m).Nodup) (k : NestedKey) (c : Int) : (keysI (putI m k c)).Nodup := by
  rw [keysI_put]
  split
  · exact nd
  · rename_i h
    refine List.nodup_append.mpr ⟨nd, by simp, fun a ha b hb => ?_⟩
    rw [List.mem_singleton] at hb
    subst hb
    rintro rfl
    have : valI m a = none := by
      cases q : valI m a with
      | none => rfl
      | some v => rw [q] at h; exact absurd rfl h
    exact valI_none.mp this ha
theorem nodup_drop {m : List NI} (nd : (keysI m).Nodup) (k : NestedKey) : (keysI (dropI m k)).Nodup := nd.sublist (List.filter_sublist.map _)
theorem len_put (m : List NI) (k : NestedKey) (c : Int) : (putI m k c).length ≤ m.length + 1 := by
  unfold putI
  split
  · rw [List.length_map]; omega
  · rw [List.length_append]; exact Nat.le_refl _
theorem len_drop (m : List NI) (k : NestedKey) : (dropI m k).length ≤ m.length := List.length_filter_le _ _
/-- at d a dict, its pairs m in their order -/
def DictI (K : PySem.W.Frag) (w : World) (H : Hp) (d : Addr) (m : List NI) : Prop := ∃ kvs : List NE, H d = some (dN w d kvs) ∧ KeysN K H kvs ∧ IntsN kvs m ∧ (keysI m).Nodup
theorem DictI.up {K : PySem.W.Frag} {w : World} {H H' : Hp} {d : Addr} {m : List NI} (h : DictI K w H d m) (e : ∀ a o, H a = some o → H' a = some o) : DictI K w H' d m :=
  let ⟨kvs, h1, h2, h3⟩ := h; ⟨kvs, e _ _ h1, h2.up (Tups.ext e), h3⟩
/-- keys and values of m, all keys of one kind -/
theorem keysN_mem {K : PySem.W.Frag} {H : Hp} {kvs : List NE} {m : List NI} (ks : KeysN K H kvs) (h : IntsN kvs m) {j : Nat} {y : NI} (hy : m[j]? = some y) : ∃ e, kvs[j]? = some e ∧ e.1 = y.1 ∧ e.2.2 = V.int y.2 ∧ KeyV K H y.1 (.ref e.2.1) ∧ y.1.depth ≤ 8 := by
  have hl := ints_len h
  have hj : j < kvs.length := by rw [hl]; exact (List.getElem?_eq_some_iff.mp hy).1
  have hk : kvs[j]? = some kvs[j] := List.getElem?_eq_getElem hj
  obtain ⟨c, hc, hv⟩ := ints_at h hk
  rw [hy] at hc
  have e : y = (kvs[j].1, c) := Option.some.inj hc
  obtain ⟨k1, k2⟩ := ks _ (List.getElem_mem hj)
  exact ⟨_, hk, by rw [e], by rw [e]; exact hv, by rw [e]; exact k1, by rw [e]; exact k2⟩
end K1D

set_option Elab.async false
set_option linter.all false
/-! Numbers written to a radix: digits from the lowest, split by division. Speaks of no program. -/
namespace K2P
/-- the number of these digits to the radix r, the lowest first -/
def numD (r : Nat) : List Nat → Nat
  | [] => 0
  | d :: ds => d + r * numD r ds
theorem numD_app (r : Nat) : ∀ (a b : List Nat), numD r (a ++ b) = numD r a + r ^ a.length * numD r b
  | [], b => by simp [numD]
  | d :: a, b => by
    show d + r * numD r (a ++ b) = d + r * numD r a + r ^ (a.length + 1) * numD r b
    rw [numD_app r a b, Nat.pow_succ, Nat.mul_add, Nat.add_assoc, ← Nat.mul_assoc, Nat.mul_comm r (r ^ a.length)]
theorem numD_lt {r : Nat} : ∀ {ds : List Nat}, (∀ d ∈ ds, d < r) → numD r ds < r ^ ds.length
  | [], _ => by simp [numD]
  | d :: ds, h => by
    have h1 := h d (List.mem_cons_self ..)
    have h2 := numD_lt (ds := ds) fun x hx => h x (List.mem_cons_of_mem _ hx)
    show d + r * numD r ds < r ^ (ds.length + 1)
    rw [Nat.pow_succ]
    have h3 : r * (numD r ds + 1) ≤ r * r ^ ds.length := Nat.mul_le_mul_left r h2
    rw [Nat.mul_add, Nat.mul_one] at h3
    rw [Nat.mul_comm (r ^ ds.length) r]
    omega
/-- split at k: the low digits are the rest, the high ones the quotient -/
theorem numD_mod {r : Nat} {ds : List Nat} (h : ∀ d ∈ ds, d < r) {k : Nat} (hk : k ≤ ds.length) : numD r ds % r ^ k = numD r (ds.take k) := by
  have e : numD r ds = numD r (ds.take k) + r ^ k * numD r (ds.drop k) := by
    have := numD_app r (ds.take k) (ds.drop k)
    rw [List.take_append_drop, List.length_take, Nat.min_eq_left hk] at this
    exact this
  have lt : numD r (ds.take k) < r ^ k := by
    have := numD_lt (r := r) (ds := ds.take k) fun d hd => h d (List.mem_of_mem_take hd)
    rwa [List.length_take, Nat.min_eq_left hk] at this
  rw [e, Nat.add_mul_mod_self_left, Nat.mod_eq_of_lt lt]
theorem numD_div {r : Nat} {ds : List Nat} (h : ∀ d ∈ ds, d < r) {k : Nat} (hk : k ≤ ds.length) (hr : 0 < r) : numD r ds / r ^ k = numD r (ds.drop k) := by
  have e : numD r ds = numD r (ds.take k) + r ^ k * numD r (ds.drop k) := by
    have := numD_app r (ds.take k) (ds.drop k)
    rw [List.take_append_drop, List.length_take, Nat.min_eq_left hk] at this
    exact this
  have lt : numD r (ds.take k) < r ^ k := by
    have := numD_lt (r := r) (ds := ds.take k) fun d hd => h d (List.mem_of_mem_take hd)
    rwa [List.length_take, Nat.min_eq_left hk] at this
  rw [e, Nat.add_mul_div_left _ _ (Nat.pow_pos hr), Nat.div_eq_of_lt lt, Nat.zero_add]
/-- one number, one list of digits -/
theorem numD_inj {r : Nat} : ∀ {a b : List Nat}, a.length = b.length → (∀ d ∈ a, d < r) → (∀ d ∈ b, d < r) → numD r a = numD r b → a = b
  | [], [], _, _, _, _ => rfl
  | [], _ :: _, l, _, _, _ => nomatch l
  | _ :: _, [], l, _, _, _ => nomatch l
  | x :: a, y :: b, l, ha, hb, e => by
    have hx := ha x (List.mem_cons_self ..)
    have hy := hb y (List.mem_cons_self ..)
    have e : x + r * numD r a = y + r * numD r b := e
    have e1 : x = y := by
      have := congrArg (· % r) e
      simp only [Nat.add_mul_mod_self_left] at this
      rwa [Nat.mod_eq_of_lt hx, Nat.mod_eq_of_lt hy] at this
    subst e1
    have e2 : numD r a = numD r b := Nat.eq_of_mul_eq_mul_left (Nat.lt_of_le_of_lt (Nat.zero_le _) hx) (Nat.add_left_cancel e)
    rw [numD_inj (Nat.succ.inj l) (fun d hd => ha d (List.mem_cons_of_mem _ hd)) (fun d hd => hb d (List.mem_cons_of_mem _ hd)) e2]
/-- nothing is the number 0's digits but 0 -/
theorem numD_zero {r : Nat} (hr : 0 < r) : ∀ {ds : List Nat}, numD r ds = 0 → ∀ d ∈ ds, d = 0
  | [], _, d, h => nomatch h
  | x :: ds, e, d, h => by
    have e : x + r * numD r ds = 0 := e
    have e1 : x = 0 := by omega
    have e2 : numD r ds = 0 := by
      have : r * numD r ds = 0 := by omega
      exact (Nat.mul_eq_zero.mp this).resolve_left (by omega)
    rcases List.mem_cons.mp h with h | h
    · rw [h, e1]
    · exact numD_zero hr e2 d h
/-- digit by digit a sum, where none passes the radix -/
theorem numD_add (r : Nat) : ∀ {a b : List Nat}, a.length = b.length → numD r a + numD r b = numD r (List.zipWith (· + ·) a b)
  | [], [], _ => rfl
  | [], _ :: _, l => nomatch l
  | _ :: _, [], l => nomatch l
  | x :: a, y :: b, l => by
    show x + r * numD r a + (y + r * numD r b) = (x + y) + r * numD r (List.zipWith (· + ·) a b)
    rw [← numD_add r (Nat.succ.inj l), Nat.mul_add]
    omega
end K2P

set_option Elab.async false
set_option linter.all false
/-! What a table sums up by keys: contributions, products of tables. Speaks of no program. -/
namespace K2P
variable {α β γ : Type} [DecidableEq α] [DecidableEq β] [DecidableEq γ]
/-- the sum of what stands at the key k -/
def tot : List (α × Int) → α → Int
  | [], _ => 0
  | x :: l, k => (if x.1 = k then x.2 else 0) + tot l k
theorem tot_app : ∀ (a b : List (α × Int)) (k : α), tot (a ++ b) k = tot a k + tot b k
  | [], b, k => by show tot b k = 0 + tot b k; omega
  | x :: a, b, k => by
    show _ + tot (a ++ b) k = _ + tot a k + tot b k
    rw [tot_app a b k]
    omega
theorem tot_none : ∀ {l : List (α × Int)} {k : α}, (∀ x ∈ l, x.1 ≠ k) → tot l k = 0
  | [], _, _ => rfl
  | x :: l, k, h => by
    show (if x.1 = k then x.2 else 0) + tot l k = 0
    rw [if_neg (h x (List.mem_cons_self ..)), tot_none fun y hy => h y (List.mem_cons_of_mem _ hy)]
    rfl
/-- the keys renamed one to one -/
theorem tot_ren (f : α → β) : ∀ {l : List (α × Int)} {k : α}, (∀ x ∈ l, f x.1 = f k → x.1 = k) → tot (l.map fun x => (f x.1, x.2)) (f k) = tot l k
  | [], _, _ => rfl
  | x :: l, k, h => by
    show (if f x.1 = f k then x.2 else 0) + tot (l.map fun x => (f x.1, x.2)) (f k) = (if x.1 = k then x.2 else 0) + tot l k
    rw [tot_ren f fun y hy => h y (List.mem_cons_of_mem _ hy)]
    by_cases e : x.1 = k
    · rw [if_pos e, if_pos (by rw [e])]
    · rw [if_neg e, if_neg fun q => e (h x (List.mem_cons_self ..) q)]
/-- term by term -/
def rowL (op : α → β → γ) (x : α × Int) (q : List (β × Int)) : List (γ × Int) := q.map fun y => (op x.1 y.1, x.2 * y.2)
def prodL (op : α → β → γ) (p : List (α × Int)) (q : List (β × Int)) : List (γ × Int) := p.flatMap fun x => rowL op x q
theorem prodL_cons (op : α → β → γ) (x : α × Int) (p : List (α × Int)) (q : List (β × Int)) : prodL op (x :: p) q = rowL op x q ++ prodL op p q := by
  unfold prodL
  rw [List.flatMap_cons]
theorem prodL_app (op : α → β → γ) (a b : List (α × Int)) (q : List (β × Int)) : prodL op (a ++ b) q = prodL op a q ++ prodL op b q := by
  unfold prodL
  rw [List.flatMap_append]
/-- one more term on the right -/
theorem tot_prod_cons (op : α → β → γ) (y : β × Int) (q : List (β × Int)) (k : γ) : ∀ p : List (α × Int), tot (prodL op p (y :: q)) k = tot (p.map fun x => (op x.1 y.1, x.2 * y.2)) k + tot (prodL op p q) k
  | [] => by show (0 : Int) = 0 + 0; rfl
  | x :: p => by
    rw [prodL_cons, prodL_cons, tot_app, tot_app, tot_prod_cons op y q k p]
    show ((if op x.1 y.1 = k then x.2 * y.2 else 0) + tot (rowL op x q) k) + _ = ((if op x.1 y.1 = k then x.2 * y.2 else 0) + _) + _
    omega
/-- turned about -/
theorem tot_prod_comm (op : α → α → γ) (c : ∀ a b, op a b = op b a) (k : γ) (q : List (α × Int)) : ∀ p : List (α × Int), tot (prodL op p q) k = tot (prodL op q p) k
  | [] => by
    have : prodL op q ([] : List (α × Int)) = [] := by
      unfold prodL
      induction q with
      | nil => rfl
      | cons y q ih => rw [List.flatMap_cons, ih]; rfl
    rw [this]
    rfl
  | x :: p => by
    rw [prodL_cons, tot_app, tot_prod_comm op c k q p, tot_prod_cons op x p k q]
    have : (q.map fun y => (op y.1 x.1, y.2 * x.2)) = rowL op x q := by
      unfold rowL
      refine List.map_congr_left fun y _ => ?_
      rw [c, Int.mul_comm]
    rw [this]
/-- a row with another factor -/
theorem tot_scale (f : α → γ) (c : Int) (k : γ) : ∀ l : List (α × Int), tot (l.map fun x => (f x.1, c * x.2)) k = c * tot (l.map fun x => (f x.1, x.2)) k
  | [] => (Int.mul_zero c).symm
  | x :: l => by
    show (if f x.1 = k then c * x.2 else 0) + tot (l.map fun x => (f x.1, c * x.2)) k = c * ((if f x.1 = k then x.2 else 0) + tot (l.map fun x => (f x.1, x.2)) k)
    rw [tot_scale f c k l, Int.mul_add]
    split
    · rfl
    · rw [Int.mul_zero]
/-- only what the left sums up counts -/
theorem tot_row_sum (op : α → β → γ) (q : List (β × Int)) (k : γ) : ∀ l : List (α × Int), ∀ p : List (α × Int), (∀ (a : α), tot l a = tot p a) → ∀ keys : List α, keys.Nodup → (∀ x ∈ l, x.1 ∈ keys) → (∀ x ∈ p, x.1 ∈ keys) → tot (prodL op l q) k = tot (prodL op p q) k := by
  have norm : ∀ (keys : List α), keys.Nodup → ∀ l : List (α × Int), (∀ x ∈ l, x.1 ∈ keys) → tot (prodL op l q) k = tot (prodL op (keys.map fun a => (a, tot l a)) q) k := by
    intro keys nd l
    induction l with
    | nil =>
      intro _
      have z : ∀ ks : List α, tot (prodL op (ks.map fun a => (a, tot ([] : List (α × Int)) a)) q) k = 0 := by
        intro ks
        induction ks with
        | nil => rfl
        | cons a ks ih =>
          rw [List.map_cons, prodL_cons, tot_app, ih]
          show tot (rowL op (a, (0 : Int)) q) k + 0 = 0
          have := tot_scale (fun b => op a b) 0 k q
          rw [Int.zero_mul] at this
          show tot (q.map fun y => (op a y.1, 0 * y.2)) k + 0 = 0
          rw [this]
          rfl
      rw [z]
      rfl
    | cons x l ih =>
      intro h
      rw [prodL_cons, tot_app, ih fun y hy => h y (List.mem_cons_of_mem _ hy)]
      have step : ∀ ks : List α, ks.Nodup → tot (prodL op (ks.map fun a => (a, tot (x :: l) a)) q) k = (if x.1 ∈ ks then tot (rowL op x q) k else 0) + tot (prodL op (ks.map fun a => (a, tot l a)) q) k := by
        intro ks
        induction ks with
        | nil => intro _; rfl
        | cons a ks ih2 =>
          intro nd2
          obtain ⟨n1, n2⟩ := List.nodup_cons.mp nd2
          rw [List.map_cons, List.map_cons, prodL_cons, prodL_cons, tot_app, tot_app, ih2 n2]
          have r1 : tot (rowL op (a, tot (x :: l) a) q) k = (if x.1 = a then tot (rowL op x q) k else 0) + tot (rowL op (a, tot l a) q) k := by
            show tot (q.map fun y => (op a y.1, tot (x :: l) a * y.2)) k = _ + tot (q.map fun y => (op a y.1, tot l a * y.2)) k
            rw [tot_scale (fun b => op a b), tot_scale (fun b => op a b)]
            show ((if x.1 = a then x.2 else 0) + tot l a) * _ = _
            rw [Int.add_mul]
            congr 1
            by_cases e : x.1 = a
            · rw [if_pos e, if_pos e]
              show _ = tot (q.map fun y => (op x.1 y.1, x.2 * y.2)) k
              rw [tot_scale (fun b => op x.1 b), e]
            · rw [if_neg e, if_neg e, Int.zero_mul]
          rw [r1]
          by_cases e : x.1 = a
          · rw [if_pos e, if_neg (by rw [e]; exact n1), if_pos (by rw [e]; exact List.mem_cons_self ..)]
            omega
          · rw [if_neg e]
            by_cases m : x.1 ∈ ks
            · rw [if_pos m, if_pos (List.mem_cons_of_mem _ m)]
              omega
            · rw [if_neg m, if_neg fun z => (List.mem_cons.mp z).elim e m]
              omega
      rw [step keys nd, if_pos (h x (List.mem_cons_self ..))]
  intro l p e keys nd hl hp
  rw [norm keys nd l hl, norm keys nd p hp]
  congr 2
  exact List.map_congr_left fun a _ => by rw [e]
end K2P

set_option Elab.async false
set_option linter.all false
/-! Products of tables: one behind another, over a sum. Speaks of no program. -/
namespace K2P
variable {α : Type} [DecidableEq α]
theorem rowL_app (op : α → α → α) (x : α × Int) (a b : List (α × Int)) : rowL op x (a ++ b) = rowL op x a ++ rowL op x b := List.map_append
theorem prodL_row (op : α → α → α) (as : ∀ a b c, op (op a b) c = op a (op b c)) (x : α × Int) (r : List (α × Int)) : ∀ q : List (α × Int), prodL op (rowL op x q) r = rowL op x (prodL op q r)
  | [] => rfl
  | y :: q => by
    show prodL op ((op x.1 y.1, x.2 * y.2) :: rowL op x q) r = _
    rw [prodL_cons, prodL_cons, rowL_app, prodL_row op as x r q]
    congr 1
    show (r.map fun z => (op (op x.1 y.1) z.1, x.2 * y.2 * z.2)) = (r.map fun z => (op y.1 z.1, y.2 * z.2)).map fun z => (op x.1 z.1, x.2 * z.2)
    rw [List.map_map]
    refine List.map_congr_left fun z _ => ?_
    show (op (op x.1 y.1) z.1, x.2 * y.2 * z.2) = (op x.1 (op y.1 z.1), x.2 * (y.2 * z.2))
    rw [as, Int.mul_assoc]
/-- one behind another, in either sequence -/
theorem prodL_assoc (op : α → α → α) (as : ∀ a b c, op (op a b) c = op a (op b c)) (q r : List (α × Int)) : ∀ p : List (α × Int), prodL op (prodL op p q) r = prodL op p (prodL op q r)
  | [] => rfl
  | x :: p => by rw [prodL_cons, prodL_cons, prodL_app, prodL_row op as, prodL_assoc op as q r p]
/-- by the one of the keys -/
theorem prodL_one (op : α → α → α) (e : α) (u : ∀ a, op e a = a) (q : List (α × Int)) : prodL op [(e, 1)] q = q := by
  rw [prodL_cons]
  show (q.map fun y => (op e y.1, 1 * y.2)) ++ [] = q
  rw [List.append_nil]
  have : ∀ y ∈ q, ((op e y.1, 1 * y.2) : α × Int) = y := fun y _ => by rw [u, Int.one_mul]
  rw [List.map_congr_left this, List.map_id']
/-- a table that sums up to the same may stand in place of a factor, to the right too -/
theorem tot_prod_right (op : α → α → α) (c : ∀ a b, op a b = op b a) (q : List (α × Int)) (k : α) (l p : List (α × Int)) (e : ∀ a, tot l a = tot p a) (keys : List α) (nd : keys.Nodup) (hl : ∀ x ∈ l, x.1 ∈ keys) (hp : ∀ x ∈ p, x.1 ∈ keys) :
    tot (prodL op q l) k = tot (prodL op q p) k := by
  rw [tot_prod_comm op c k l q, tot_prod_comm op c k p q]
  exact tot_row_sum op q k l p e keys nd hl hp
/-- keys of both, each once -/
theorem keys_both (l p : List (α × Int)) : ∃ keys : List α, keys.Nodup ∧ (∀ x ∈ l, x.1 ∈ keys) ∧ ∀ x ∈ p, x.1 ∈ keys := by
  have one : ∀ m : List (α × Int), ∃ keys : List α, keys.Nodup ∧ ∀ x ∈ m, x.1 ∈ keys := by
    intro m
    induction m with
    | nil => exact ⟨[], List.nodup_nil, fun x h => nomatch h⟩
    | cons y m ih =>
      obtain ⟨ks, h1, h2⟩ := ih
      by_cases e : y.1 ∈ ks
      · refine ⟨ks, h1, fun x hx => (List.mem_cons.mp hx).elim (fun q => ?_) (h2 x)⟩
        rw [q]
        exact e
      · refine ⟨y.1 :: ks, List.nodup_cons.mpr ⟨e, h1⟩, fun x hx => (List.mem_cons.mp hx).elim (fun q => ?_) (fun q => List.mem_cons_of_mem _ (h2 x q))⟩
        rw [q]
        exact List.mem_cons_self ..
  obtain ⟨ks, h1, h2⟩ := one (l ++ p)
  exact ⟨ks, h1, fun x hx => h2 x (List.mem_append_left _ hx), fun x hx => h2 x (List.mem_append_right _ hx)⟩
/-- both factors by what they sum up -/
theorem tot_prod_ext (op : α → α → α) (c : ∀ a b, op a b = op b a) {l p m n : List (α × Int)} (e : ∀ a, tot l a = tot p a) (f : ∀ a, tot m a = tot n a) (k : α) : tot (prodL op l m) k = tot (prodL op p n) k := by
  obtain ⟨ks, nd, h1, h2⟩ := keys_both l p
  obtain ⟨js, nj, g1, g2⟩ := keys_both m n
  rw [tot_row_sum op m k l p e ks nd h1 h2, tot_prod_right op c p k m n f js nj g1 g2]
/-- a product over a sum -/
theorem tot_prod_add (op : α → α → α) (a b q : List (α × Int)) (k : α) : tot (prodL op (a ++ b) q) k = tot (prodL op a q) k + tot (prodL op b q) k := by
  rw [prodL_app, tot_app]
end K2P

set_option Elab.async false
set_option linter.all false
set_option maxRecDepth 100000
set_option maxHeartbeats 4000000
/-! Dicts from flat keys (ints or texts) to ints, as lists of pairs. Speaks of no program. -/
namespace K2P
open PySem L2
section
variable {κ : Type} [DecidableEq κ]
def valT (T : List (κ × Int)) (k : κ) : Option Int := (T.find? fun x => decide (x.1 = k)).map (·.2)
def putT (T : List (κ × Int)) (k : κ) (c : Int) : List (κ × Int) := if (valT T k).isSome then T.map fun x => if x.1 = k then (x.1, c) else x else T ++ [(k, c)]
def getT (T : List (κ × Int)) (k : κ) : Int := (valT T k).getD 0
theorem valT_cons (x : κ × Int) (T : List (κ × Int)) (k : κ) : valT (x :: T) k = if x.1 = k then some x.2 else valT T k := by
  unfold valT
  rw [List.find?_cons]
  by_cases e : x.1 = k
  · simp [e]
  · simp [e]
theorem valT_none : ∀ {T : List (κ × Int)} {k : κ}, valT T k = none ↔ k ∉ T.map (·.1)
  | [], k => by simp [valT]
  | x :: T, k => by
    rw [valT_cons, List.map_cons, List.mem_cons]
    by_cases e : x.1 = k
    · simp [e]
    · rw [if_neg e, valT_none]
      simp [show ¬ k = x.1 from fun z => e z.symm]
theorem valT_mem : ∀ {T : List (κ × Int)}, (T.map (·.1)).Nodup → ∀ {k : κ} {c : Int}, valT T k = some c ↔ (k, c) ∈ T
  | [], _, k, c => by simp [valT]
  | x :: T, nd, k, c => by
    have nd' := List.nodup_cons.mp nd
    rw [valT_cons, List.mem_cons]
    by_cases e : x.1 = k
    · rw [if_pos e]
      constructor
      · intro h
        have h := Option.some.inj h
        exact .inl (by rw [← e, ← h])
      · rintro (h | h)
        · rw [← h]
        · exact absurd (List.mem_map.mpr ⟨(k, c), h, e.symm⟩) nd'.1
    · rw [if_neg e, valT_mem nd'.2]
      constructor
      · exact .inr
      · rintro (h | h)
        · rw [← h] at e; exact absurd rfl e
        · exact h
theorem getT_tot : ∀ {T : List (κ × Int)}, (T.map (·.1)).Nodup → ∀ k, getT T k = tot T k
  | [], _, k => rfl
  | x :: T, nd, k => by
    have nd' := List.nodup_cons.mp nd
    show _ = (if x.1 = k then x.2 else 0) + tot T k
    rw [← getT_tot nd'.2 k]
    unfold getT
    rw [valT_cons]
    by_cases e : x.1 = k
    · rw [if_pos e, if_pos e, valT_none.mpr (by rw [← e]; exact nd'.1)]
      exact (Int.add_zero _).symm
    · rw [if_neg e, if_neg e, Int.zero_add]
theorem keys_putT (T : List (κ × Int)) (k : κ) (c : Int) : (putT T k c).map (·.1) = if (valT T k).isSome then T.map (·.1) else T.map (·.1) ++ [k] := by
  unfold putT
  split
  · rw [List.map_map]
    refine List.map_congr_left fun x _ => ?_
    show (if x.1 = k then (x.1, c) else x).1 = x.1
    split <;> rfl
  · rw [List.map_append]; rfl
theorem nodup_putT {T : List (κ × Int)} (nd : (T.map (·.1)).Nodup) (k : κ) (c : Int) : ((putT T k c).map (·.1)).Nodup := by
  rw [keys_putT]
  split
  · exact nd
  · rename_i h
    have : valT T k = none := by simpa using h
    exact List.nodup_append.mpr ⟨nd, by simp, fun a ha b hb e => by
      rw [List.mem_singleton] at hb
      rw [e, hb] at ha
      exact valT_none.mp this ha⟩
theorem mem_keys_putT {T : List (κ × Int)} {k j : κ} {c : Int} : j ∈ (putT T k c).map (·.1) ↔ j ∈ T.map (·.1) ∨ j = k := by
  rw [keys_putT]
  split
  · rename_i h
    constructor
    · exact .inl
    · rintro (q | q)
      · exact q
      · rw [q]
        cases hv : valT T k with
        | none => rw [hv] at h; cases h
        | some v => exact Classical.byContradiction fun z => by rw [valT_none.mpr z] at hv; cases hv
  · rw [List.mem_append, List.mem_singleton]
theorem len_putT (T : List (κ × Int)) (k : κ) (c : Int) : (putT T k c).length ≤ T.length + 1 := by
  unfold putT
  split
  · rw [List.length_map]; omega
  · rw [List.length_append]; exact Nat.le_refl _
theorem le_putT (T : List (κ × Int)) (k : κ) (c : Int) : T.length ≤ (putT T k c).length := by
  unfold putT
  split
  · rw [List.length_map]; omega
  · rw [List.length_append]; omega
theorem valT_put : ∀ (T : List (κ × Int)) (k : κ) (c : Int) (j : κ), valT (putT T k c) j = if j = k then some c else valT T j := by
  have rep : ∀ (T : List (κ × Int)) (k : κ) (c : Int) (j : κ), valT (T.map fun x => if x.1 = k then (x.1, c) else x) j = (valT T j).map fun v => if j = k then c else v := by
    intro T k c j
    induction T with
    | nil => rfl
    | cons x T ih =>
      rw [List.map_cons, valT_cons, valT_cons, ih]
      by_cases e : x.1 = k
      · rw [if_pos e]
        by_cases e2 : x.1 = j
        · rw [if_pos e2, if_pos e2]
          show some c = some (if j = k then c else x.2)
          rw [if_pos (e2.symm.trans e)]
        · rw [if_neg e2, if_neg e2]
      · rw [if_neg e]
        by_cases e2 : x.1 = j
        · rw [if_pos e2, if_pos e2]
          show some x.2 = some (if j = k then c else x.2)
          rw [if_neg (fun z => e (e2.trans z))]
        · rw [if_neg e2, if_neg e2]
  intro T k c j
  unfold putT
  split
  · rename_i h
    rw [rep]
    by_cases e : j = k
    · subst e
      rw [if_pos rfl]
      cases q : valT T j with
      | none => rw [q] at h; cases h
      | some v => show some (if j = j then c else v) = _; rw [if_pos rfl]
    · rw [if_neg e]
      cases valT T j with
      | none => rfl
      | some v => show some (if j = k then c else v) = _; rw [if_neg e]
  · rename_i h
    have h : valT T k = none := by simpa using h
    have app : ∀ T : List (κ × Int), valT T k = none → valT (T ++ [(k, c)]) j = if j = k then some c else valT T j := by
      intro T
      induction T with
      | nil =>
        intro _
        show valT ((k, c) :: []) j = _
        rw [valT_cons]
        by_cases e : j = k
        · rw [if_pos e, if_pos e.symm]
        · rw [if_neg e, if_neg (fun z => e z.symm)]
      | cons x T ih =>
        intro hn
        rw [valT_cons] at hn
        by_cases e : x.1 = k
        · rw [if_pos e] at hn; cases hn
        · rw [if_neg e] at hn
          rw [List.cons_append, valT_cons, valT_cons, ih hn]
          by_cases e2 : x.1 = j
          · rw [if_pos e2, if_pos e2, if_neg (fun z => e (e2.trans z))]
          · rw [if_neg e2, if_neg e2]
    exact app T h
theorem getT_put (T : List (κ × Int)) (k : κ) (c : Int) (j : κ) : getT (putT T k c) j = if j = k then c else getT T j := by
  unfold getT
  rw [valT_put]
  split <;> rfl
/-! ### as a dict -/
def mpT (e : κ → Key) (T : List (κ × Int)) : List (Key × V) := T.map fun x => (e x.1, V.int x.2)
theorem len_mpT (e : κ → Key) (T : List (κ × Int)) : (mpT e T).length = T.length := List.length_map ..
theorem valV_mpT {e : κ → Key} (inj : ∀ a b, e a = e b → a = b) : ∀ (T : List (κ × Int)) (k : κ), valV (mpT e T) (e k) = (valT T k).map V.int
  | [], k => rfl
  | x :: T, k => by
    show valV ((e x.1, V.int x.2) :: mpT e T) (e k) = _
    rw [valT_cons]
    by_cases h : x.1 = k
    · rw [if_pos h, valV_pos (p := (e x.1, V.int x.2)) (by rw [h])]
      rfl
    · rw [if_neg h, valV_neg (p := (e x.1, V.int x.2)) (fun z => h (inj _ _ z)), valV_mpT inj T k]
theorem putK_mpT {e : κ → Key} (inj : ∀ a b, e a = e b → a = b) (T : List (κ × Int)) (k : κ) (c : Int) : putK (mpT e T) (e k) (.int c) = mpT e (putT T k c) := by
  unfold putK putT
  rw [valV_any, valV_mpT inj, Option.isSome_map]
  split
  · unfold mpT
    rw [List.map_map, List.map_map]
    refine List.map_congr_left fun x _ => ?_
    show (if e x.1 = e k then (e x.1, V.int c) else (e x.1, V.int x.2)) = (e (if x.1 = k then (x.1, c) else x).1, V.int (if x.1 = k then (x.1, c) else x).2)
    by_cases h : x.1 = k
    · rw [if_pos (by rw [h]), if_pos h]
    · rw [if_neg (fun z => h (inj _ _ z)), if_neg h]
  · unfold mpT
    rw [List.map_append]
    rfl
theorem getD_mpT {e : κ → Key} (inj : ∀ a b, e a = e b → a = b) (T : List (κ × Int)) (k : κ) : (valV (mpT e T) (e k)).getD (.int 0) = .int (getT T k) := by
  rw [valV_mpT inj]
  unfold getT
  cases valT T k <;> rfl
theorem at_mpT {e : κ → Key} {T : List (κ × Int)} {i : Nat} {k : Key} {v : V} (h : (mpT e T)[i]? = some (k, v)) : ∃ x, T[i]? = some x ∧ k = e x.1 ∧ v = .int x.2 := by
  unfold mpT at h
  rw [List.getElem?_map] at h
  obtain ⟨x, hx, q⟩ := Option.map_eq_some_iff.mp h
  exact ⟨x, hx, (Prod.mk.inj q).1.symm, (Prod.mk.inj q).2.symm⟩
end
/-- int keys -/
abbrev KI := List (Int × Int)
def eI : Int → Key := Sum.inl
theorem eI_inj : ∀ a b, eI a = eI b → a = b := fun _ _ h => Sum.inl.inj h
def eS : Str → Key := Sum.inr
theorem eS_inj : ∀ a b, eS a = eS b → a = b := fun _ _ h => Sum.inr.inj h
/-- at d a dict of int keys, its pairs T -/
def TabAt (H : Hp) (d : Addr) (T : KI) : Prop := H d = some (.dK (mpT eI T)) ∧ (T.map (·.1)).Nodup
theorem TabAt.up {H H' : Hp} {d : Addr} {T : KI} (h : TabAt H d T) (s : Same H H') : TabAt H' d T := ⟨s _ _ h.1, h.2⟩
/-! ### rows of products -/
def addT (T : KI) (k c : Int) : KI := putT T k (getT T k + c)
def rowT (T : KI) (k m : Int) (C : KI) : KI := C.foldl (fun T y => addT T (k + y.1) (m * y.2)) T
theorem nodup_addT {T : KI} (nd : (T.map (·.1)).Nodup) (k c : Int) : ((addT T k c).map (·.1)).Nodup := nodup_putT nd _ _
theorem tot_addT {T : KI} (nd : (T.map (·.1)).Nodup) (k c j : Int) : tot (addT T k c) j = tot T j + if k = j then c else 0 := by
  rw [← getT_tot (nodup_addT nd k c), ← getT_tot nd]
  unfold addT
  rw [getT_put]
  by_cases e : j = k
  · rw [if_pos e, if_pos e.symm, e]
  · rw [if_neg e, if_neg (fun z => e z.symm), Int.add_zero]
theorem nodup_rowT {k m : Int} : ∀ {C T : KI}, (T.map (·.1)).Nodup → ((rowT T k m C).map (·.1)).Nodup
  | [], _, h => h
  | y :: C, T, h => nodup_rowT (C := C) (nodup_addT h _ _)
theorem tot_rowT {k m j : Int} : ∀ {C T : KI}, (T.map (·.1)).Nodup → tot (rowT T k m C) j = tot T j + tot (rowL (· + ·) (k, m) C) j
  | [], T, _ => by show tot T j = tot T j + 0; omega
  | y :: C, T, h => by
    show tot (rowT (addT T (k + y.1) (m * y.2)) k m C) j = _ + ((if k + y.1 = j then m * y.2 else 0) + tot (rowL (· + ·) (k, m) C) j)
    rw [tot_rowT (nodup_addT h _ _), tot_addT h]
    omega
theorem len_rowT {k m : Int} : ∀ {C T : KI}, (rowT T k m C).length ≤ T.length + C.length
  | [], T => by show T.length ≤ T.length + 0; omega
  | y :: C, T => by
    have h1 := len_rowT (k := k) (m := m) (C := C) (T := addT T (k + y.1) (m * y.2))
    have h2 := len_putT T (k + y.1) (getT T (k + y.1) + m * y.2)
    show (rowT (addT T (k + y.1) (m * y.2)) k m C).length ≤ T.length + (C.length + 1)
    unfold addT at h1 ⊢
    omega
theorem rowT_take {C : KI} {i : Nat} {y : Int × Int} (h : C[i]? = some y) (T : KI) (k m : Int) : rowT T k m (C.take (i + 1)) = addT (rowT T k m (C.take i)) (k + y.1) (m * y.2) := by
  have lt : i < C.length := (List.getElem?_eq_some_iff.mp h).1
  have e : C[i] = y := (List.getElem?_eq_some_iff.mp h).2
  unfold rowT
  rw [List.take_succ_eq_append_getElem lt, List.foldl_append, e]
  rfl
theorem keys_rowT {k m j : Int} : ∀ {C T : KI}, j ∈ (rowT T k m C).map (·.1) → j ∈ T.map (·.1) ∨ ∃ y ∈ C, j = k + y.1
  | [], _, h => .inl h
  | y :: C, T, h => by
    rcases keys_rowT (C := C) (T := addT T (k + y.1) (m * y.2)) h with h | ⟨z, hz, e⟩
    · rcases mem_keys_putT.mp h with h | h
      · exact .inl h
      · exact .inr ⟨y, List.mem_cons_self .., h⟩
    · exact .inr ⟨z, List.mem_cons_of_mem _ hz, e⟩
def prodT (P C : KI) : KI := P.foldl (fun T x => rowT T x.1 x.2 C) []
theorem prodT_take {P C : KI} {i : Nat} {x : Int × Int} (h : P[i]? = some x) : prodT (P.take (i + 1)) C = rowT (prodT (P.take i) C) x.1 x.2 C := by
  have lt : i < P.length := (List.getElem?_eq_some_iff.mp h).1
  have e : P[i] = x := (List.getElem?_eq_some_iff.mp h).2
  unfold prodT
  rw [List.take_succ_eq_append_getElem lt, List.foldl_append, e]
  rfl
theorem foldl_prod {C : KI} : ∀ {P T : KI}, (T.map (·.1)).Nodup → ((P.foldl (fun T x => rowT T x.1 x.2 C) T).map (·.1)).Nodup ∧ ∀ j, tot (P.foldl (fun T x => rowT T x.1 x.2 C) T) j = tot T j + tot (prodL (· + ·) P C) j
  | [], T, h => ⟨h, fun j => by show tot T j = tot T j + 0; omega⟩
  | x :: P, T, h => by
    obtain ⟨h1, h2⟩ := foldl_prod (C := C) (P := P) (nodup_rowT (k := x.1) (m := x.2) (C := C) h)
    refine ⟨h1, fun j => ?_⟩
    have q : tot (rowT T x.1 x.2 C) j = tot T j + tot (rowL (· + ·) x C) j := tot_rowT (k := x.1) (m := x.2) (C := C) (j := j) h
    rw [List.foldl_cons, h2, q, prodL_cons, tot_app]
    omega
theorem nodup_prodT (P C : KI) : ((prodT P C).map (·.1)).Nodup := (foldl_prod (C := C) (P := P) (T := []) List.nodup_nil).1
theorem tot_prodT (P C : KI) (j : Int) : tot (prodT P C) j = tot (prodL (· + ·) P C) j := by
  have := (foldl_prod (C := C) (P := P) (T := []) List.nodup_nil).2 j
  rw [show tot ([] : KI) j = 0 from rfl, Int.zero_add] at this
  exact this
theorem len_foldl_prod {C : KI} : ∀ {P T : KI}, (P.foldl (fun T x => rowT T x.1 x.2 C) T).length ≤ T.length + P.length * C.length
  | [], T => by show T.length ≤ T.length + 0 * C.length; omega
  | x :: P, T => by
    have h1 := len_foldl_prod (C := C) (P := P) (T := rowT T x.1 x.2 C)
    have h2 := len_rowT (k := x.1) (m := x.2) (C := C) (T := T)
    rw [List.foldl_cons, List.length_cons, Nat.succ_mul]
    omega
theorem len_prodT (P C : KI) : (prodT P C).length ≤ P.length * C.length := by
  have := len_foldl_prod (C := C) (P := P) (T := [])
  rw [List.length_nil, Nat.zero_add] at this
  exact this
def nzT (T : KI) : KI := T.filter fun x => decide (x.2 ≠ 0)
theorem nodup_nzT {T : KI} (h : (T.map (·.1)).Nodup) : ((nzT T).map (·.1)).Nodup := h.sublist (List.filter_sublist.map _)
end K2P

set_option Elab.async false
set_option linter.all false
set_option maxRecDepth 100000
set_option maxHeartbeats 4000000
/-! sorted(d.items()), d's keys and values ints. Speaks of no program. -/
namespace K2P
open PySem PySem.Spec PyProof.Rows L2 K1D
def pairI (x : Int × Int) : NestedKey := .tup [.num x.1, .num x.2]
def riseP (T : KI) : KI := T.mergeSort (PySem.W.dataLe false fun x => (pairI x).data)
theorem riseP_perm (T : KI) : (riseP T).Perm T := List.mergeSort_perm _ _
theorem al_pairI (x y : Int × Int) : PySem.W.alike (pairI x).data (pairI y).data = true := by
  show PySem.W.alike (.tuple [.int x.1, .int x.2]) (.tuple [.int y.1, .int y.2]) = true
  simp only [PySem.W.alike, PySem.W.alikeAll, Bool.and_self]
/-- at L a list of pairs -/
def ColsAt (K : PySem.W.Frag) (H : Hp) (L : Addr) (C : KI) : Prop := ∃ zs, H L = some (.lst zs) ∧ KeyVs K H (C.map pairI) zs
theorem pairs_at {P : Program} {w : World} : ∀ {T : KI} {vs : List (L2.Key × Value)} {es : List DictEntry}, KV (mpT eI T) vs → Pairs (mixKind P w) es vs → ∀ {j : Nat} {y : Int × Int}, T[j]? = some y → ∃ (e : DictEntry) (t1 t2 : Tok), es[j]? = some e ∧ e.key = .int y.1 t1 ∧ e.val = .int y.2 t2
  | [], _, _, _, _, j, y, h => by simp at h
  | x :: T, _, _, .cons (b := b) r rs, .cons (e := e) h1 h2 hs, j, y, h => by
    cases j with
    | zero =>
      simp only [List.getElem?_cons_zero, Option.some.injEq] at h
      subst h
      obtain ⟨r1, r2⟩ := r
      have k1 : keyIs (Sum.inl x.1) e.key = true := by
        have : b.1 = Sum.inl x.1 := r1.symm
        rw [← this]
        exact h1
      rcases keyIs_shape k1 with ⟨i, t, e1, e2⟩ | ⟨z, t, e1, e2⟩
      · cases e1
        obtain ⟨t2, e3⟩ := (r2 : RelV (.int x.2) b.2)
        exact ⟨e, t, t2, rfl, e2, by rw [h2, e3]⟩
      · cases e1
    | succ j =>
      simp only [List.getElem?_cons_succ] at h ⊢
      exact pairs_at rs hs h
def rSortItI (K : PySem.W.Frag) : List V → Hp → VK → Prop := fun vs H Q => ∃ (p a : Addr) (T : KI), vs = [.ref p] ∧ H p = some (DX.itemsO p a) ∧ H a = some (.dK (mpT eI T)) ∧
  ∀ (H' : Hp) (l : Addr), (∀ b o, H b = some o → H' b = some o) → H l = none → ColsAt K H' l (riseP T) → Q (.ref l) H'
section
variable {X : Cx}
theorem cr_sortItI (hc : X.calm = true) (hu : X.A.units + 64 < cLine) : CallR X (.builtin "sorted") (rSortItI X.K) := by
  intro pn s σ H xs us Q I r h
  obtain ⟨p, a, T, rfl, hp, ha, q⟩ := h
  obtain rfl := Vals.ref1 r
  have view : s.heap.IsItemsView p a := (show ObjOk X.prog X.w H s.heap p (DX.itemsO p a) from I.hok p _ hp).1
  obtain ⟨hz, hs0, vs, kv, hdo⟩ := dk_of I.hok ha
  obtain ⟨o, es, ep, ho, hx, hdat, hko, hpr, hnd⟩ := id hdo
  have l1 := hpr.length
  rw [Array.length_toList] at l1
  have l2 : (mpT eI T).length = vs.length := Paired.length kv
  rw [len_mpT] at l2 hz
  refine DT.sortedI (es := es) (ep := ep) (I.ok.hd hc) view ⟨o, ho, hx, hdat⟩ (by omega) fun h' tk as hk hlt hl hG => ?_
  have nd : as.Nodup := List.Pairwise.imp (fun h => Nat.ne_of_lt h) hG.rise
  have lam : as.length = T.length := by omega
  have pr : ∀ (j : Nat) (b : Addr) (y : Int × Int), as[j]? = some b → T[j]? = some y → ∃ (t1 t : Tok), h'.get? b = some { cls := .type "tuple", data := .seq #[Value.int y.1 t1, Value.int y.2 t] } := by
    intro j b y hj hy
    obtain ⟨en, hen, hg⟩ := hG.pairs j b hj
    obtain ⟨e, t1, t2, he, h1, h2⟩ := pairs_at kv hpr hy
    rw [← Array.getElem?_toList, he] at hen
    cases hen
    exact ⟨t1, t2, by rw [hg, h1, h2]⟩
  have hob : (h'.push { cls := .type "list", data := .seq (as.map Value.ref).toArray }).get? h'.objs.size = some (seqObj "list" (as.map Value.ref).toArray 0) := Heap.get?_push_size _ rfl
  have ka : ∀ b o, h'.get? b = some o → (h'.push { cls := .type "list", data := .seq (as.map Value.ref).toArray }).get? b = some o := fun b o e => Heap.get?_push_of_some _ e
  have ne0 : ∀ b o, h'.get? b = some o → b ≠ h'.objs.size := fun b o e => Nat.ne_of_lt (Heap.lt_size e)
  generalize hh2 : h'.push { cls := .type "list", data := .seq (as.map Value.ref).toArray } = h2 at hob ka ⊢
  have kb : ∀ b o, s.heap.get? b = some o → h2.get? b = some o := fun b o e => ka b o (hk b o e)
  let Rt : Value → Int × Int → Prop := fun v y => ∃ (j : Nat) (b : Addr), v = .ref b ∧ as[j]? = some b ∧ T[j]? = some y
  have e1 : PySem.W.EachIs Rt (as.map Value.ref) T := each_of (by rw [List.length_map]; exact lam) fun j v y hv hy => by
    rw [List.getElem?_map] at hv
    obtain ⟨b, hb, rfl⟩ := Option.map_eq_some_iff.mp hv
    exact ⟨j, b, rfl, hb, hy⟩
  have e2 : PySem.W.EachIs (fun v y => ∃ as', Reads h2 v (pairI y).data as' ∧ h'.objs.size ∉ as') (as.map Value.ref) T := e1.mono fun v y ⟨j, b, ev, hb, hy⟩ => by
    obtain ⟨t1, t, hg⟩ := pr j b y hb hy
    subst ev
    have r2 : ReadsAll h2 [Value.int y.1 t1, Value.int y.2 t] [.int y.1, .int y.2] [] := ReadsAll.cons (Reads.int y.1 t1) (ReadsAll.cons (Reads.int y.2 t) ReadsAll.nil)
    exact ⟨[], Reads.tuple (ka _ _ hg) rfl rfl r2, by simp⟩
  have hal : PySem.W.AllAlike (T.map fun x => (pairI x).data) := by
    intro d1 h1 d2 h2'
    obtain ⟨y1, m1, rfl⟩ := List.mem_map.mp h1
    obtain ⟨y2, m2, rfl⟩ := List.mem_map.mp h2'
    exact al_pairI y1 y2
  refine PySem.W.list_sort_data (s := { s with heap := h2, toks := tk }) hob e1 e2 hal (PySem.W.Sortable.tuples fun y => ⟨_, _, rfl⟩) (by omega) (fun y hy => ?_) fun out ol oe => ?_
  · have : (pairI y).data.depth = 1 := rfl
    rw [Around.in1_units]
    omega
  · show EP X pn σ Q (.ref h'.objs.size) { s with heap := sortedHeap h2 h'.objs.size (as.map Value.ref) out.toArray, toks := tk }
    have kF : ∀ b o, b ≠ h'.objs.size → h2.get? b = some o → (sortedHeap h2 h'.objs.size (as.map Value.ref) out.toArray).get? b = some o := fun b o hb e => (PyProof.Rows.sortedHeap_old hb (Heap.lt_size e)).trans e
    have kS : ∀ b o, s.heap.get? b = some o → (sortedHeap h2 h'.objs.size (as.map Value.ref) out.toArray).get? b = some o := fun b o e => kF b o (ne0 _ _ (hk b o e)) (kb b o e)
    obtain ⟨eF, heF⟩ := PyProof.Rows.sortedHeap_at (vs := as.map Value.ref) (out := out.toArray) hob
    generalize hF : sortedHeap h2 h'.objs.size (as.map Value.ref) out.toArray = hf at kF kS heF ⊢
    have I1 : Inv X pn σ H { s with heap := hf, toks := tk } := I.kept (t' := tk) kS
    have hn0 : H h'.objs.size = none := I.hok.fresh (Nat.le_of_lt hlt)
    obtain ⟨cs, ecs, ecm⟩ := each_addr (T := fun b y => ∃ j : Nat, as[j]? = some b ∧ T[j]? = some y) (oe.mono fun v y ⟨j, b, ev, hb, hy⟩ => ⟨b, ev, j, hb, hy⟩)
    have lcs : cs.length = T.length := by rw [ecm.length, List.length_mergeSort]
    have I2 : Inv X pn σ (upd H h'.objs.size (.lst (cs.map V.ref))) { s with heap := hf, toks := tk } :=
      I1.take (h' := hf) (t' := tk) (fun b ob _ e => e) (I.fpOk (Nat.le_of_lt hlt) hn0) ⟨by rw [List.length_map]; omega, out, eF, by rw [ecs]; exact vals_refs _, heF⟩
    obtain ⟨H2, I3, g, qt⟩ := DX.takeT (P := fun b vs => ∃ (j : Nat) (y : Int × Int), as[j]? = some b ∧ T[j]? = some y ∧ vs = [.int y.1, .int y.2]) I as _ I2 nd fun b hb => by
      obtain ⟨j, hj⟩ := List.mem_iff_getElem?.mp hb
      have hjl : j < T.length := by rw [← lam]; exact (List.getElem?_eq_some_iff.mp hj).1
      have hy : T[j]? = some T[j] := List.getElem?_eq_getElem hjl
      obtain ⟨t1, t, hg⟩ := pr j b _ hj hy
      have hbl : s.heap.objs.size ≤ b := Nat.le_of_lt (hG.above b hb)
      refine ⟨hbl, ?_, [.int T[j].1, .int T[j].2], ⟨j, T[j], hj, hy, rfl⟩, fun H3 => ⟨(by rw [sizeLine_eq]; show 2 ≤ 16777216; omega), [Value.int T[j].1 t1, Value.int T[j].2 t], .cons ⟨t1, rfl⟩ (.cons ⟨t, rfl⟩ .nil), ⟨_, kF _ _ (ne0 _ _ hg) (ka _ _ hg), rfl, 0, rfl⟩⟩⟩
      rw [upd_ne (ne0 _ _ hg)]
      exact I.hok.fresh hbl
    have gr : ∀ b o, H b = some o → H2 b = some o := fun b o e => g b o (by rw [upd_ne (ne_of_none e hn0)]; exact e)
    refine ⟨.ref h'.objs.size, H2, I3, rfl, q H2 h'.objs.size gr hn0 ⟨cs.map V.ref, g _ _ upd_same, each_keys pairI (ecm.mono fun b y ⟨j, hb, hy⟩ => ?_)⟩⟩
    obtain ⟨vs', ⟨j', y', j1, j2, ev⟩, hH⟩ := qt b (List.mem_of_getElem? hb)
    have eij : j = j' := (List.getElem?_inj (List.getElem?_eq_some_iff.mp hb).1 nd).mp (hb.trans j1.symm)
    subst eij
    have ee : y' = y := Option.some.inj (j2.symm.trans hy)
    rw [ee] at ev
    rw [ev] at hH
    exact .tup hH (.cons (.int y.1) (.cons (.int y.2) .nil))
end
/-- d.items(), a view -/
def tItemsI (td : TE) : TE := fun σ H Q => td σ H fun x G => ∃ (d : Addr) (T : KI), x = .ref d ∧ G d = some (.dK (mpT eI T)) ∧ ∀ p, G p = none → Q (.ref p) (upd G p (DX.itemsO p d))
theorem pe_itemsV {X : Cx} {e : Expr} {td : TE} {ap cp : Pos} (he : PE X e td) (hbase : attributeBase e "items" X.env (eval e X.env) = eval e X.env := by rfl) (hline : (ap.endLine == cp.line) = true := by rfl) :
    PE X (.Call (.Attribute e "items" ap) [] [] cp) (tItemsI td) := ⟨fun pn s τ H Q I h => by
  refine wpAny_Call_method (T := "dict") (id := "dict.items") hbase rfl hline F.plainAttrs_dict F.slot_dict_items F.type_dict_items (thn (he.run pn s τ H _ I h) fun u s1 ⟨x, G, I1, rx, d, T, ex, hd, q⟩ => ?_)
  subst ex
  obtain rfl : u = Value.ref d := rx
  obtain ⟨hz, hs, vs, kv, hdo⟩ := dk_of I1.hok hd
  obtain ⟨o, es, ep, ho, hx, hdat, _⟩ := id hdo
  have raw : s1.heap.DictRaw d es ep := ⟨o, ho, hx, hdat⟩
  refine ⟨raw.typeIs, fun b q => ?_, ?_⟩
  · cases q
    exact ⟨o, ho, hx.2.1⟩
  show wpAny _ _ (callWith cp (.builtin "dict.items") [.ref d] [] []) _ X.xe s1
  refine method_meetsIn F.slot_dict_items F.entry_dict_items rfl (PySem.evalArgs_none ⟨rfl, raw.typeIs, F.args_dict_items_1 _, _, meets_dict_items_raw d hs, ⟨es, ep, raw⟩, ?_⟩)
  exact ⟨.ref s1.heap.objs.size, _, I1.laid (t' := s1.toks) (fun b u e => Heap.get?_push_of_some _ e) (Nat.le_refl _) (DX.itemsO_ok (Heap.get?_push_size _ rfl)), rfl, q _ (I1.hok.fresh (Nat.le_refl _))⟩⟩
end K2P

set_option Elab.async false
set_option linter.all false
set_option maxRecDepth 100000
set_option maxHeartbeats 4000000
set_option autoImplicit false
set_option pp.maxSteps 600
/-! figurehold.tables: _add_row. -/
namespace K2P
open PySem L2 K1D
def top (i : Nat) : Stmt := PySem.Challenge.pw_figurehold_k12_impossible_steps.main.body.getD i (.Pass ⟨0, 0, 0, 0⟩)
theorem ifY {b : Bool} {A B : Prop} (e : b = true) (h : A) : if b = true then A else B := by rw [if_pos e]; exact h
theorem ifN {b : Bool} {A B : Prop} (e : b = false) (h : B) : if b = true then A else B := by rw [e]; exact h
theorem hu8 {A : Around} {k : Nat} (hr : Room k A) : A.units + 8 < cLine := by have := hr.un; omega
theorem hu1 {A : Around} {k : Nat} (hr : Room k A) : A.units + 1 < cLine := by have := hr.un; omega
theorem same_new {q : Addr} {o : HO} {H : Hp} (h : H q = none) : Same H (upd H q o) := fun a x e => (upd_ne (ne_of_none e h)).trans e
theorem take_snoc {α : Type} {l : List α} {i : Nat} {u : α} (h : l[i]? = some u) : l.take (i + 1) = l.take i ++ [u] := by
  obtain ⟨lt, e⟩ := List.getElem?_eq_some_iff.mp h
  rw [List.take_succ_eq_append_getElem lt, e]
/-- all but what is at d stands -/
def Oth (d : Addr) (H G : Hp) : Prop := ∀ a o, a ≠ d → H a = some o → G a = some o
section
variable {d q : Addr} {H G F : Hp} {o : HO}
theorem Oth.refl : Oth d H H := fun _ _ _ e => e
theorem Oth.trans (h : Oth d H G) (g : Oth d G F) : Oth d H F := fun a o n e => g a o n (h a o n e)
theorem Oth.same (s : Same H G) : Oth d H G := fun a o _ e => s a o e
theorem Oth.put : Oth d H (upd H d o) := fun a u n e => (upd_ne n).trans e
theorem Oth.tups {K : PySem.W.Frag} {kvs : List (Key × V)} (h : Oth d H G) (hd : H d = some (.dK kvs)) : Tups K H G := fun a xs e => h a _ (fun z => by rw [z, hd] at e; cases e) e
end
theorem keyVs_len {K : PySem.W.Frag} {H : Hp} : ∀ {ks : List NestedKey} {vs : List V}, KeyVs K H ks vs → vs.length = ks.length
  | [], _, h => by cases h; rfl
  | _ :: _, _, h => by
    cases h with
    | cons h1 h2 => rw [List.length_cons, List.length_cons, keyVs_len h2]
theorem keyVs_get {K : PySem.W.Frag} {H : Hp} : ∀ {ks : List NestedKey} {vs : List V}, KeyVs K H ks vs → ∀ {i : Nat} {v : V}, vs[i]? = some v → ∃ k, ks[i]? = some k ∧ KeyV K H k v
  | [], _, h, i, v, e => by cases h; simp at e
  | k :: ks, _, h, i, v, e => by
    cases h with
    | @cons _ u _ us h1 h2 =>
      cases i with
      | zero =>
        simp only [List.getElem?_cons_zero, Option.some.injEq] at e
        subst e
        exact ⟨k, rfl, h1⟩
      | succ i =>
        simp only [List.getElem?_cons_succ] at e ⊢
        exact keyVs_get h2 e
theorem kv_pairI {K : PySem.W.Frag} {H : Hp} {y : Int × Int} {v : V} : KeyV K H (pairI y) v ↔ ∃ t : Addr, v = .ref t ∧ H t = some (.tup [.int y.1, .int y.2]) := by
  constructor
  · intro h
    cases h with
    | @tup a xs ks h1 h2 =>
      cases h2 with
      | cons h2 h3 =>
        cases h3 with
        | cons h3 h4 =>
          cases h4
          cases h3
          cases h2
          exact ⟨a, rfl, h1⟩
  · rintro ⟨t, rfl, h⟩
    exact .tup h (.cons (.int _) (.cons (.int _) .nil))
theorem ColsAt.at {K : PySem.W.Frag} {H : Hp} {L : Addr} {C : KI} (h : ColsAt K H L C) : ∃ zs, H L = some (.lst zs) ∧ zs.length = C.length ∧ ∀ (i : Nat) (v : V), zs[i]? = some v → ∃ (y : Int × Int) (t : Addr), C[i]? = some y ∧ v = .ref t ∧ H t = some (.tup [.int y.1, .int y.2]) := by
  obtain ⟨zs, h1, h2⟩ := h
  refine ⟨zs, h1, by rw [keyVs_len h2, List.length_map], fun i v e => ?_⟩
  obtain ⟨k, hk, kv⟩ := keyVs_get h2 e
  rw [List.getElem?_map] at hk
  obtain ⟨y, hy, rfl⟩ := Option.map_eq_some_iff.mp hk
  obtain ⟨t, e1, e2⟩ := kv_pairI.mp kv
  exact ⟨y, t, hy, e1, e2⟩
theorem ColsAt.up {K : PySem.W.Frag} {H G : Hp} {L : Addr} {C : KI} (h : ColsAt K H L C) (s : Same H G) : ColsAt K G L C := by
  obtain ⟨zs, h1, h2⟩ := h
  exact ⟨zs, s _ _ h1, KeyVs.up (Tups.ext s) _ _ h2⟩
theorem ColsAt.oth {K : PySem.W.Frag} {H G : Hp} {L d : Addr} {C : KI} {kvs : List (Key × V)} (h : ColsAt K H L C) (s : Oth d H G) (hd : H d = some (.dK kvs)) : ColsAt K G L C := by
  obtain ⟨zs, h1, h2⟩ := h
  refine ⟨zs, s _ _ (fun z => ?_) h1, KeyVs.up (s.tups hd) _ _ h2⟩
  rw [z, hd] at h1
  cases h1
abbrev sRow : Stmt := top 53
/-- coefficients below 2 ^ a -/
def Bits (a : Nat) (T : KI) : Prop := ∀ x ∈ T, x.2.natAbs < 2 ^ a
def spRow (K : PySem.W.Frag) : Sp := fun vs H Q _ => ∃ (d L : Addr) (k m : Int) (T C : KI) (a b : Nat), vs = [.ref d, .int k, .int m, .ref L] ∧ TabAt H d T ∧ ColsAt K H L C ∧ T.length + C.length < sizeLine ∧ m.natAbs < 2 ^ a ∧ Bits b C ∧ 0 < a ∧ 0 < b ∧ a + b ≤ 1000000 ∧
  ∀ (G : Hp), Oth d H G → TabAt G d (rowT T k m C) → Q .non G
section
variable {P : Program} {w : World} {K : PySem.W.Frag} {mg : Str → Option Value} {base : Heap}
theorem scRow : FnScope ["out", "key", "many", "columns", "other", "much", "both"] ["out", "key", "many", "columns"] (defScope sRow) := ⟨rfl, rfl, rfl, by decide +kernel, rfl, by decide +kernel, by decide +kernel⟩
theorem ok_row {f : Addr} {fd : FuncData} (F : Fun K "_add_row" "_add_row" sRow f fd) : FnOk P w K mg base CX0 1 f fd ["out", "key", "many", "columns"] (spRow K) := by
  refine F.ok scRow (fun vs H Q E h => ?_) (fun cdv A outer s H vs Q E hr h => ?_)
  · obtain ⟨d, L, k, m, T, C, a, b, rfl, _⟩ := h
    rfl
  · obtain ⟨d, L, k, m, T, C, a, b, rfl, hd, hL, hl, ma, cb, a0, b0, ab, go⟩ := h
    refine ⟨_, pss_one (ps_for PassesOwn.never rfl (pi_list (pv 3)) (pg_tup rfl (pgs_cons (pg_name (i := 4) scRow.nd rfl (Or.inl rfl)) (pgs_cons (pg_name (i := 5) scRow.nd rfl (Or.inl rfl)) pgs_nil)))
      (pss_cons (ps_set (i := 6) scRow.nd rfl (Or.inl rfl) (pe_op op_add (pv 1) (pv 4)))
      (pss_one (ps_dput (hu1 hr) (pv 0) (pv 6) (pe_op op_add (pe_dget2 (hu1 hr) (pv 0) (pv 6) pe_int ⟨rfl, rfl, rfl, rfl⟩) (pe_op op_mulW (pv 2) (pv 5))) rfl)))), ?_⟩
    obtain ⟨zs, h1, lz, at_⟩ := hL.at
    have Ld : L ≠ d := fun z => by rw [z, hd.1] at h1; cases h1
    refine ⟨_, rfl, L, rfl, ⟨_, SqL.of h1⟩, ?_⟩
    refine for_it (walk_list (K := K) (a := L) (xs := zs)) (fun i σ G => ∃ u4 u5 u6 : Option V, σ = [some (.ref d), some (.int k), some (.int m), some (.ref L), u4, u5, u6] ∧ Oth d H G ∧ TabAt G d (rowT T k m (C.take i)))
      ⟨_, _, _, rfl, Oth.refl, hd⟩ (fun i σ G _ ⟨_, _, _, _, h, _⟩ => SqL.of (h _ _ Ld h1)) (fun i v σ G G' hi ⟨u4, u5, u6, hσ, oG, tG⟩ ⟨e, hv⟩ => ?_) (fun σ G ⟨u4, u5, u6, hσ, oG, tG⟩ => ?_)
    · subst hσ e
      obtain ⟨y, t, hy, rfl, ht⟩ := at_ i v hv
      have td : t ≠ d := fun z => by rw [z, hd.1] at ht; cases ht
      have ym := List.mem_of_getElem? hy
      have lc : i < C.length := (List.getElem?_eq_some_iff.mp hy).1
      have lt := len_rowT (k := k) (m := m) (C := C.take i) (T := T)
      rw [List.length_take] at lt
      have g1 := DGet.k (k := eI (k + y.1)) tG.1
      refine ⟨t, _, rfl, SqT.of (oG _ _ td ht), rfl, _, _, rfl, _, _, rfl, rfl, ?_⟩
      refine ⟨_, rfl, _, rfl, _, _, rfl, rfl, ?_⟩
      refine ⟨_, rfl, d, rfl, .inl ⟨_, .inl tG.1⟩, _, rfl, _, g1, ?_⟩
      rw [getD_mpT eI_inj]
      refine ⟨_, rfl, _, rfl, _, _, rfl, rfl, wide_mul ma (cb y ym) a0 b0 ab, _, _, rfl, rfl, ?_⟩
      refine ⟨_, rfl, _, rfl, d, _, rfl, DPut.k (k := eI (k + y.1)) tG.1 (by rw [len_mpT]; omega), ?_⟩
      rw [putK_mpT eI_inj]
      refine ⟨_, _, _, rfl, oG.trans Oth.put, ?_⟩
      rw [rowT_take hy]
      exact ⟨upd_same, nodup_addT tG.2 _ _⟩
    · subst hσ
      rw [lz, List.take_length] at tG
      exact go G oG tG
end
end K2P

set_option Elab.async false
set_option linter.all false
set_option maxRecDepth 100000
set_option maxHeartbeats 4000000
set_option autoImplicit false
set_option pp.maxSteps 600
/-! figurehold.tables: times. -/
namespace K2P
open PySem L2 K1D
abbrev sTimes : Stmt := top 51
/-- d is locked, all else stands -/
def LkT (d : Addr) (od : Obj) (u : HO) (H F : Hp) : Prop := F d = some (.frz od u) ∧ ∀ a o, a ≠ d → H a = some o → F a = some o
theorem LkT.start {d : Addr} {od : Obj} {u : HO} {H : Hp} : LkT d od u H (upd H d (.frz od u)) := ⟨upd_same, fun a o ne e => (upd_ne ne).trans e⟩
theorem LkT.new {d q : Addr} {od : Obj} {u o : HO} {H F : Hp} (h : LkT d od u H F) (n : F q = none) : LkT d od u H (upd F q o) :=
  ⟨(upd_ne (ne_of_none h.1 n)).trans h.1, fun a x ne e => (upd_ne (ne_of_none (h.2 a x ne e) n)).trans (h.2 a x ne e)⟩
theorem LkT.set {d q : Addr} {od : Obj} {u o : HO} {H F : Hp} (h : LkT d od u H F) (nq : q ≠ d) (n : H q = none) : LkT d od u H (upd F q o) :=
  ⟨(upd_ne (Ne.symm nq)).trans h.1, fun a x ne e => (upd_ne (ne_of_none e n)).trans (h.2 a x ne e)⟩
theorem LkT.done {d : Addr} {od : Obj} {u : HO} {H F : Hp} (h : LkT d od u H F) (hd : H d = some u) : Same H (upd F d u) := fun a o e => by
  by_cases z : a = d
  · subst z
    rw [hd] at e
    rw [upd_same]
    exact e
  · rw [upd_ne z]
    exact h.2 a o z e
theorem nz_snoc {T : KI} {i : Nat} {y : Int × Int} (h : T[i]? = some y) : nzT (T.take (i + 1)) = nzT (T.take i) ++ (if y.2 ≠ 0 then [y] else []) := by
  unfold nzT
  rw [take_snoc h, List.filter_append]
  congr 1
  by_cases e : y.2 = 0
  · simp [e]
  · simp [e]
theorem put_new {T : KI} {k c : Int} (h : k ∉ T.map (·.1)) : putT T k c = T ++ [(k, c)] := by
  unfold putT
  rw [valT_none.mpr h]
  rfl
theorem keys_nz_take {T : KI} (nd : (T.map (·.1)).Nodup) {i : Nat} {y : Int × Int} (h : T[i]? = some y) : y.1 ∉ (nzT (T.take i)).map (·.1) := fun q => by
  obtain ⟨x, hx, ex⟩ := List.mem_map.mp q
  have hx2 := (List.mem_filter.mp hx).1
  obtain ⟨j, hj⟩ := List.mem_iff_getElem?.mp hx2
  rw [List.getElem?_take] at hj
  split at hj
  · rename_i lj
    have e1 : (T.map (·.1))[j]? = some y.1 := by rw [List.getElem?_map, hj]; exact congrArg some ex
    have e2 : (T.map (·.1))[i]? = some y.1 := by rw [List.getElem?_map, h]; rfl
    have := (List.getElem?_inj (List.getElem?_eq_some_iff.mp e1).1 nd).mp (e1.trans e2.symm)
    omega
  · cases hj
/-- {key: many for key, many in d.items() if many != 0}, d locked -/
theorem nz_read {K : PySem.W.Frag} {σ : L2.St} {F : Hp} {d : Addr} {od : Obj} {T : KI} {o ik im : Nat} {Q : VK} (hd : F d = some (.frz od (.dK (mpT eI T)))) (nd : (T.map (·.1)).Nodup) (lt : T.length < sizeLine) (hv : σ[o]? = some (some (.ref d)))
    (hw : ∀ k m, wipe (((wipe σ [ik, im]).set ik (some k)).set im (some m)) [ik, im] = wipe σ [ik, im]) (hk : ∀ k m, (((wipe σ [ik, im]).set ik (some k)).set im (some m))[ik]? = some (some k)) (hm : ∀ k m, (((wipe σ [ik, im]).set ik (some k)).set im (some m))[im]? = some (some m))
    (go : ∀ D G, F D = none → LkT d od (.dK (mpT eI T)) F G → G D = some (.dK (mpT eI (nzT T))) → Q (.ref D) G) :
    (tDc (iItems (tVar o)) (gTup K 2 (gCons (gName ik) (gCons (gName im) gNil))) (tTest (tOp rNe (tVar im) (tC (.int 0)))) (tVar ik) (tVar im) [ik, im]) σ F Q := by
  refine ⟨_, hv, d, od, _, rfl, hd, fun D nD => ?_⟩
  have Dd : D ≠ d := fun z => by rw [z, hd] at nD; cases nD
  have l0 : LkT d od (.dK (mpT eI T)) F F := ⟨hd, fun _ _ _ e => e⟩
  refine blk_n (o := fun D => .dK []) (n := (mpT eI T).length) (fun (i : Nat) (G : Hp) => LkT d od (.dK (mpT eI T)) F G ∧ G D = some (.dK (mpT eI (nzT (T.take i)))))
    ⟨l0.new nD, upd_same⟩ (fun i G hi ⟨l, _⟩ => ⟨l.1, hi⟩) (fun G ⟨l, _⟩ => ⟨l.1, Nat.le_refl _⟩) (fun i G x G' hi ⟨l, h1⟩ hy => ?_) (fun G ⟨l, h1⟩ => ?_)
  · obtain ⟨t, k, v, hkv, rfl, nt, rfl⟩ := hy
    obtain ⟨y, hy, rfl, rfl⟩ := at_mpT hkv
    have l2 := l.new (o := .tup [kV (eI y.1), .int y.2]) nt
    have ht : upd G t (.tup [kV (eI y.1), .int y.2]) t = some (.tup [kV (eI y.1), .int y.2]) := upd_same
    have h2 : upd G t (.tup [kV (eI y.1), .int y.2]) D = some (.dK (mpT eI (nzT (T.take i)))) := (upd_ne (ne_of_none h1 nt)).trans h1
    generalize upd G t (.tup [kV (eI y.1), .int y.2]) = G2 at l2 ht h2 ⊢
    have ns := nz_snoc hy
    have ll : (nzT (T.take i)).length ≤ T.length := Nat.le_trans (List.length_filter_le _ _) (by rw [List.length_take]; omega)
    refine ⟨t, _, rfl, SqT.of ht, rfl, _, _, rfl, _, _, rfl, rfl, hw _ _, _, hm _ _, rfl, _, rfl, ?_⟩
    by_cases y0 : y.2 = 0
    · refine ifN (by rw [y0]; rfl) ⟨l2, ?_⟩
      rw [ns, if_neg (by simp [y0]), List.append_nil]
      exact h2
    · refine ifY (by simp [y0]) ⟨_, hk _ _, _, hm _ _, _, eI y.1, rfl, h2, by rw [len_mpT]; omega, l2.set Dd nD, ?_⟩
      rw [upd_same, ns, if_pos y0, putK_mpT eI_inj, put_new (keys_nz_take nd hy)]
  · rw [len_mpT, List.take_length] at h1
    exact go D G nD l h1
/-- R is the product of P and C -/
structure ProdR (P C R : KI) : Prop where
  nz : ∀ x ∈ R, x.2 ≠ 0
  tot : ∀ j, K2P.tot R j = K2P.tot (prodL (· + ·) P C) j
  len : R.length ≤ P.length * C.length
  keys : ∀ x ∈ R, ∃ y ∈ P, ∃ z ∈ C, x.1 = y.1 + z.1
theorem ProdR.comm {P C R : KI} (h : ProdR P C R) : ProdR C P R :=
  ⟨h.nz, fun j => (h.tot j).trans (tot_prod_comm (· + ·) (fun a b => Int.add_comm a b) j C P), by rw [Nat.mul_comm]; exact h.len, fun x hx => by
    obtain ⟨y, hy, z, hz, e⟩ := h.keys x hx
    exact ⟨z, hz, y, hy, by omega⟩⟩
theorem keys_foldl {C : KI} : ∀ {P T : KI} {j : Int}, j ∈ (P.foldl (fun T x => rowT T x.1 x.2 C) T).map (·.1) → j ∈ T.map (·.1) ∨ ∃ y ∈ P, ∃ z ∈ C, j = y.1 + z.1
  | [], _, _, h => .inl h
  | x :: P, T, j, h => by
    rw [List.foldl_cons] at h
    rcases keys_foldl (P := P) h with h | ⟨y, hy, z, hz, e⟩
    · rcases keys_rowT h with h | ⟨z, hz, e⟩
      · exact .inl h
      · exact .inr ⟨x, List.mem_cons_self, z, hz, e⟩
    · exact .inr ⟨y, List.mem_cons_of_mem _ hy, z, hz, e⟩
theorem tot_nzT (T : KI) (k : Int) : tot (nzT T) k = tot T k := by
  induction T with
  | nil => rfl
  | cons x T ih =>
    show tot (List.filter _ (x :: T)) k = _
    rw [List.filter_cons]
    by_cases z : x.2 = 0
    · rw [if_neg (by simp [z])]
      show tot (nzT T) k = (if x.1 = k then x.2 else 0) + tot T k
      rw [ih, z]
      split <;> omega
    · rw [if_pos (by simp [z])]
      show (if x.1 = k then x.2 else 0) + tot (nzT T) k = _ + tot T k
      rw [ih]
theorem prodR_nz (P C : KI) : ProdR P C (nzT (prodT P C)) :=
  ⟨fun x hx => of_decide_eq_true (List.mem_filter.mp hx).2, fun j => (tot_nzT _ j).trans (tot_prodT P C j), Nat.le_trans (List.length_filter_le _ _) (len_prodT P C), fun x hx => by
    rcases keys_foldl (C := C) (P := P) (T := []) (j := x.1) (List.mem_map.mpr ⟨x, (List.mem_filter.mp hx).1, rfl⟩) with h | h
    · cases h
    · exact h⟩
theorem cols_of {K : PySem.W.Frag} {H : Hp} : ∀ {C : KI} {ts : List Addr}, Paired (fun (t : Addr) (q : Key × V) => H t = some (.tup [kV q.1, q.2])) ts (mpT eI C) → KeyVs K H (C.map pairI) (ts.map V.ref)
  | [], _, h => by cases h; exact .nil
  | y :: C, _, h => by
    cases h with
    | cons h1 h2 => exact .cons (kv_pairI.mpr ⟨_, rfl, h1⟩) (cols_of h2)
structure RowTxt (P : Program) (w : World) (K : PySem.W.Frag) (mg : Str → Option Value) (base : Heap) (fR : Addr) (dR : FuncData) : Prop where
  ok : FnOk P w K mg base CX0 1 fR dR ["out", "key", "many", "columns"] (spRow K)
  b : Binds K dR ["out", "key", "many", "columns"] []
  g : mg "_add_row" = some (.ref fR)
  k : PySem.W.keepIn K (.ref fR) = true
  len : mg "len" = none
  list : mg "list" = none
def spTimes0 : Sp := fun vs H Q _ => ∃ (d e : Addr) (P C : KI) (a b : Nat), vs = [.ref d, .ref e] ∧ TabAt H d P ∧ TabAt H e C ∧ P.length ≤ C.length ∧ P.length * C.length < sizeLine ∧ C.length < sizeLine ∧ Bits a P ∧ Bits b C ∧ 0 < a ∧ 0 < b ∧ a + b ≤ 1000000 ∧
  ∀ (r : Addr) (R : KI) (G : Hp), Same H G → H r = none → TabAt G r R → ProdR P C R → Q (.ref r) G
def spTimes : Sp := fun vs H Q _ => ∃ (d e : Addr) (P C : KI) (a b : Nat), vs = [.ref d, .ref e] ∧ TabAt H d P ∧ TabAt H e C ∧ P.length * C.length < sizeLine ∧ P.length < sizeLine ∧ C.length < sizeLine ∧ Bits a P ∧ Bits b C ∧ 0 < a ∧ 0 < b ∧ a + b ≤ 1000000 ∧
  ∀ (r : Addr) (R : KI) (G : Hp), Same H G → H r = none → TabAt G r R → ProdR P C R → Q (.ref r) G
section
variable {P : Program} {w : World} {K : PySem.W.Frag} {mg : Str → Option Value} {base : Heap} {fR : Addr} {dR : FuncData}
theorem scTimes : FnScope ["p", "q", "out", "columns", "key", "many"] ["p", "q"] (defScope sTimes) := ⟨rfl, rfl, rfl, by decide +kernel, rfl, by decide +kernel, by decide +kernel⟩
theorem ok_times0 {f : Addr} {fd : FuncData} (F : Fun K "times" "times" sTimes f fd) (T : RowTxt P w K mg base fR dR) : FnOk P w K mg base CX0 2 f fd ["p", "q"] spTimes0 := by
  refine F.ok scTimes (fun vs H Q E h => ?_) (fun cdv A outer s H vs Q E hr h => ?_)
  · obtain ⟨d, e, P1, C, a, b, rfl, _⟩ := h
    rfl
  · obtain ⟨d, e, P1, C, a, b, rfl, hd, he, le, hl, hc, pa, cb, a0, b0, ab, go⟩ := h
    refine ⟨_, pss_cons (ps_if (pt_cmpR op_gt (pe_callB call_lenD (by rfl) T.len PySem.boot_len (pa_cons (pv 0) pa_nil)) (pe_callB call_lenD (by rfl) T.len PySem.boot_len (pa_cons (pv 1) pa_nil)) (nomark _)) pss_never pss_nil)
      (pss_cons (ps_set (i := 2) scTimes.nd rfl (Or.inl rfl) pe_dnewK)
      (pss_cons (ps_set (i := 3) scTimes.nd rfl (Or.inl rfl) (LiI.pe_listItems rfl (pv 1) (by rfl) T.list (by decide +kernel)))
      (pss_cons (ps_lock (ps_for PassesOwn.never rfl (pi_items (pv 0)) (pg_tup rfl (pgs_cons (pg_name (i := 4) scTimes.nd rfl (Or.inl rfl)) (pgs_cons (pg_name (i := 5) scTimes.nd rfl (Or.inl rfl)) pgs_nil))) (pss_one (ps_expr (pe_call T.ok (hr.mono (by decide)) rfl T.g T.k T.b .nil pass0 (pa_cons (pv 2) (pa_cons (pv 4) (pa_cons (pv 5) (pa_cons (pv 3) pa_nil)))))))))
      (pss_one (ps_lock (ps_ret (pe_dc (own := [("key", 4), ("many", 5)]) (g := gTup K 2 (gCons (gName 4) (gCons (gName 5) gNil))) (tt := tTest (tOp rNe (tVar 5) (tC (.int 0)))) (tk := tVar 4) (tv := tVar 5) rfl scTimes.nd (pi_items (pv 2))
        (blkOk_by (own := [("key", 4), ("many", 5)]) (N := ["p", "q", "out", "columns", "key", "many"]) (sc := defScope sTimes) (by decide +kernel))
        (fun _ _ _ _ _ => pg_tup rfl (pgs_cons (pg_name (i := 4) scTimes.nd rfl (Or.inl rfl)) (pgs_cons (pg_name (i := 5) scTimes.nd rfl (Or.inl rfl)) pgs_nil)))
        (fun _ _ _ _ _ => pts_one (pt_cmpR op_ne (pv 5) pe_int (nomark _))) (fun _ _ _ _ _ => pv 4) (fun _ _ _ _ _ => pv 5)))))))), ?_⟩
    refine ⟨_, rfl, d, _, rfl, hd.1, _, rfl, e, _, rfl, he.1, _, _, rfl, rfl, _, rfl, ifN (decide_eq_false (by rw [len_mpT, len_mpT]; omega)) ?_⟩
    intro O nO
    have s1 : Same H (upd H O (.dK [])) := same_new nO
    have hO1 : upd H O (.dK []) O = some (.dK []) := upd_same
    generalize upd H O (.dK []) = H1 at s1 hO1 ⊢
    have dO : d ≠ O := fun z => by rw [← z, hd.1] at nO; cases nO
    refine ⟨_, rfl, e, _, rfl, s1 _ _ he.1, fun H2 L ts s2 nL nts pts hL hpt => ?_⟩
    have c2 : ColsAt K H2 L C := ⟨_, hL, cols_of hpt⟩
    have s12 : Same H H2 := s1.trans s2
    have hd2 := s12 _ _ hd.1
    have hO2 := s2 _ _ hO1
    refine ⟨d, _, hd2, True.intro, fun od => ?_⟩
    have l0 : LkT d od (.dK (mpT eI P1)) H (upd H2 d (.frz od (.dK (mpT eI P1)))) := ⟨upd_same, fun x o ne q => (upd_ne ne).trans (s12 x o q)⟩
    have c3 : ColsAt K (upd H2 d (.frz od (.dK (mpT eI P1)))) L C := by
      obtain ⟨zs, z1, z2⟩ := c2
      refine ⟨zs, (upd_ne (fun z => by rw [z, hd2] at z1; cases z1)).trans z1, KeyVs.up (fun x xs q => (upd_ne (fun z => by rw [z, hd2] at q; cases q)).trans q) _ _ z2⟩
    have t3 : TabAt (upd H2 d (.frz od (.dK (mpT eI P1)))) O [] := ⟨(upd_ne (Ne.symm dO)).trans hO2, List.nodup_nil⟩
    generalize upd H2 d (.frz od (.dK (mpT eI P1))) = F0 at l0 c3 t3 ⊢
    refine ⟨_, rfl, d, od, _, rfl, l0.1, for_n (n := (mpT eI P1).length) (fun (i : Nat) (σ : L2.St) (G : Hp) => ∃ u4 u5 : Option V, σ = [some (.ref d), some (.ref e), some (.ref O), some (.ref L), u4, u5] ∧ Oth O F0 G ∧ TabAt G O (prodT (P1.take i) C))
      ⟨_, _, rfl, Oth.refl, t3⟩ (fun i σ G hi ⟨_, _, _, o, _⟩ => ⟨o _ _ dO l0.1, hi⟩) (fun σ G ⟨_, _, _, o, _⟩ => ⟨o _ _ dO l0.1, Nat.le_refl _⟩) (fun i σ G x G' hi ⟨u4, u5, hσ, o, tG⟩ hy => ?_) (fun σ G ⟨u4, u5, hσ, o, tG⟩ => ?_)⟩
    · subst hσ
      obtain ⟨t, k, v, hkv, rfl, nt, rfl⟩ := hy
      obtain ⟨y, hy, rfl, rfl⟩ := at_mpT hkv
      have ip : i < P1.length := (List.getElem?_eq_some_iff.mp hy).1
      have st : Same G (upd G t (.tup [kV (eI y.1), .int y.2])) := same_new nt
      have ht : upd G t (.tup [kV (eI y.1), .int y.2]) t = some (.tup [kV (eI y.1), .int y.2]) := upd_same
      generalize upd G t (.tup [kV (eI y.1), .int y.2]) = G2 at st ht ⊢
      have o2 := o.trans (Oth.same st)
      have lp := len_prodT (P1.take i) C
      rw [List.length_take, Nat.min_eq_left (by omega)] at lp
      have lq : (i + 1) * C.length ≤ P1.length * C.length := Nat.mul_le_mul_right _ ip
      rw [Nat.succ_mul] at lq
      refine ⟨t, _, rfl, SqT.of ht, rfl, _, _, rfl, _, _, rfl, rfl, ?_⟩
      refine ⟨_, rfl, _, rfl, _, rfl, _, rfl, O, L, y.1, y.2, prodT (P1.take i) C, C, a, b, rfl, tG.up st, c3.oth o2 t3.1, by omega, pa y (List.mem_of_getElem? hy), cb, a0, b0, ab, fun G3 o3 t4 => ?_⟩
      refine ⟨_, _, rfl, o2.trans o3, ?_⟩
      rw [prodT_take hy]
      exact t4
    · subst hσ
      rw [len_mpT, List.take_length] at tG
      refine ⟨o _ _ dO l0.1, ?_⟩
      have s3 : Same H (upd G d (.dK (mpT eI P1))) := fun x ob q => by
        by_cases z : x = d
        · rw [z] at q ⊢
          rw [hd.1] at q
          rw [upd_same]
          exact q
        · exact (upd_ne z).trans (o _ _ (fun w => by rw [w, nO] at q; cases q) (l0.2 _ _ z q))
      have t5 : TabAt (upd G d (.dK (mpT eI P1))) O (prodT P1 C) := ⟨(upd_ne (Ne.symm dO)).trans tG.1, tG.2⟩
      generalize upd G d (.dK (mpT eI P1)) = G5 at s3 t5 ⊢
      refine ⟨O, _, t5.1, True.intro, fun oe => ?_⟩
      have lp := len_prodT P1 C
      refine nz_read upd_same t5.2 (by omega) rfl (fun _ _ => rfl) (fun _ _ => rfl) (fun _ _ => rfl) (fun D G6 nD l6 hD => ?_)
      have DO : D ≠ O := fun z => by rw [z, upd_same] at nD; cases nD
      rw [upd_ne DO] at nD
      refine ⟨l6.1, go D (nzT (prodT P1 C)) _ (fun x ob q => ?_) ?_ ⟨(upd_ne DO).trans hD, nodup_nzT t5.2⟩ (prodR_nz P1 C)⟩
      · have xO : x ≠ O := fun w => by rw [w, nO] at q; cases q
        exact (upd_ne xO).trans (l6.2 _ _ xO ((upd_ne xO).trans (s3 _ _ q)))
      · cases q : H D with
        | none => rfl
        | some ob => rw [s3 _ _ q] at nD; cases nD
structure TimesTxt (P : Program) (w : World) (K : PySem.W.Frag) (mg : Str → Option Value) (base : Heap) (fT : Addr) (dT : FuncData) : Prop where
  ok : FnOk P w K mg base CX0 2 fT dT ["p", "q"] spTimes0
  b : Binds K dT ["p", "q"] []
  g : mg "times_tables" = some (.ref fT)
  k : PySem.W.keepIn K (.ref fT) = true
def spTimesS : Sp := fun vs H Q _ => ∃ (d e : Addr) (P C : KI) (a b : Nat), vs = [.ref d, .ref e] ∧ TabAt H d P ∧ TabAt H e C ∧ C.length < P.length ∧ P.length * C.length < sizeLine ∧ P.length < sizeLine ∧ Bits a P ∧ Bits b C ∧ 0 < a ∧ 0 < b ∧ a + b ≤ 1000000 ∧
  ∀ (r : Addr) (R : KI) (G : Hp), Same H G → H r = none → TabAt G r R → ProdR P C R → Q (.ref r) G
theorem ok_timesS {f : Addr} {fd : FuncData} (F : Fun K "times" "times" sTimes f fd) (ln : mg "len" = none) (U : TimesTxt P w K mg base f fd) : FnOk P w K mg base CX0 3 f fd ["p", "q"] spTimesS := by
  refine F.ok scTimes (fun vs H Q E h => ?_) (fun cdv A outer s H vs Q E hr h => ?_)
  · obtain ⟨d, e, P1, C, a, b, rfl, _⟩ := h
    rfl
  · obtain ⟨d, e, P1, C, a, b, rfl, hd, he, lt, hl, hp, pa, cb, a0, b0, ab, go⟩ := h
    refine ⟨_, pss_cons (ps_if (pt_cmpR op_gt (pe_callB call_lenD (by rfl) ln PySem.boot_len (pa_cons (pv 0) pa_nil)) (pe_callB call_lenD (by rfl) ln PySem.boot_len (pa_cons (pv 1) pa_nil)) (nomark _))
      (pss_one (ps_ret (pe_call U.ok hr rfl U.g U.k U.b .nil pass0 (pa_cons (pv 1) (pa_cons (pv 0) pa_nil))))) pss_nil) pss_never, ?_⟩
    refine ⟨_, rfl, d, _, rfl, hd.1, _, rfl, e, _, rfl, he.1, _, _, rfl, rfl, _, rfl, ifY (decide_eq_true (by rw [len_mpT, len_mpT]; omega)) ?_⟩
    exact ⟨_, rfl, _, rfl, e, d, C, P1, b, a, rfl, he, hd, by omega, by rw [Nat.mul_comm]; exact hl, hp, cb, pa, b0, a0, by omega, fun r R G s n t q => go r R G s n t q.comm⟩
theorem fn_or {CX : CXT} {k : Nat} {f : Addr} {fd : FuncData} {ps : List Str} {sp1 sp2 : Sp} (h1 : FnOk P w K mg base CX k f fd ps sp1) (h2 : FnOk P w K mg base CX k f fd ps sp2) : FnOk P w K mg base CX k f fd ps (fun vs H Q E => sp1 vs H Q E ∨ sp2 vs H Q E) :=
  ⟨fun vs H Q E q => q.elim (h1.len vs H Q E) (h2.len vs H Q E), fun A outer s H args us vs Q E hr e0 hb r q => q.elim (h1.run A outer s H args us vs Q E hr e0 hb r) (h2.run A outer s H args us vs Q E hr e0 hb r)⟩
theorem fn_up {CX : CXT} {j k : Nat} {f : Addr} {fd : FuncData} {ps : List Str} {sp : Sp} (h : FnOk P w K mg base CX j f fd ps sp) (le : j ≤ k) : FnOk P w K mg base CX k f fd ps sp :=
  ⟨h.len, fun A outer s H args us vs Q E hr e0 hb r q => h.run A outer s H args us vs Q E (hr.mono le) e0 hb r q⟩
theorem fn_imp {CX : CXT} {k : Nat} {f : Addr} {fd : FuncData} {ps : List Str} {sp sp' : Sp} (h : FnOk P w K mg base CX k f fd ps sp) (i : ∀ vs H Q E, sp' vs H Q E → sp vs H Q E) : FnOk P w K mg base CX k f fd ps sp' :=
  ⟨fun vs H Q E q => h.len vs H Q E (i _ _ _ _ q), fun A outer s H args us vs Q E hr e0 hb r q => h.run A outer s H args us vs Q E hr e0 hb r (i _ _ _ _ q)⟩
theorem ok_times {f : Addr} {fd : FuncData} (F : Fun K "times" "times" sTimes f fd) (T : RowTxt P w K mg base fR dR) (bT : Binds K fd ["p", "q"] []) (gT : mg "times_tables" = some (.ref f)) (kT : PySem.W.keepIn K (.ref f) = true) : FnOk P w K mg base CX0 3 f fd ["p", "q"] spTimes := by
  have h0 := ok_times0 F T
  refine fn_imp (fn_or (fn_up h0 (by decide)) (ok_timesS F T.len ⟨h0, bT, gT, kT⟩)) fun vs H Q E ⟨d, e, P1, C, a, b, ev, hd, he, hl, hp, hc, pa, cb, a0, b0, ab, go⟩ => ?_
  by_cases le : P1.length ≤ C.length
  · exact .inl ⟨d, e, P1, C, a, b, ev, hd, he, le, hl, hc, pa, cb, a0, b0, ab, go⟩
  · exact .inr ⟨d, e, P1, C, a, b, ev, hd, he, by omega, hl, hp, pa, cb, a0, b0, ab, go⟩
end
end K2P

set_option Elab.async false
set_option linter.all false
set_option maxRecDepth 100000
set_option maxHeartbeats 4000000
/-! name = {k: v for ..} on one line (keys ints or texts). Speaks of no program. -/
namespace L2
open PySem PySem.Spec PyProof.Rows
section
variable {X : Cx}
theorem ps_setDc {i : Nat} {y : Str} {py : Pos} {kx vx tg iter : Expr} {ifs : List Expr} {scope : Scope} {own : List (Str × Nat)} {pos sp : Pos} {wi : TI} {g : TG} {tt : TT} {tk tv : TE} (hc : X.calm = true) (hN : X.N.Nodup) (hy : X.N[i]? = some y) (loc : X.env.scope.names.lookup y = some .local)
    (sw : swapsWith (.DictComp kx vx [⟨tg, iter, ifs, 0⟩] scope pos) (some (.Name y py)) sp.line X.env = pure true) (hi : PI X tg iter wi) (ok : BlkOk X.N X.env.scope scope own)
    (hg : ∀ (s : Shared) (H : Hp) (C : Addr) (cl : List (Str × Addr)) (fp : List Addr), PG (X.blk s H scope (compEnvC scope cl C X.env) fp) tg g)
    (ht : ∀ (s : Shared) (H : Hp) (C : Addr) (cl : List (Str × Addr)) (fp : List Addr), PTs (X.blk s H scope (compEnvC scope cl C X.env) fp) ifs tt)
    (hk : ∀ (s : Shared) (H : Hp) (C : Addr) (cl : List (Str × Addr)) (fp : List Addr), PE (X.blk s H scope (compEnvC scope cl C X.env) fp) kx tk)
    (hv : ∀ (s : Shared) (H : Hp) (C : Addr) (cl : List (Str × Addr)) (fp : List Addr), PE (X.blk s H scope (compEnvC scope cl C X.env) fp) vx tv) (hs : ∀ x, foldedSetIterable iter X.env x = pure x := by intro _; rfl) :
    PS X (.Assign [.Name y py] (.DictComp kx vx [⟨tg, iter, ifs, 0⟩] scope pos) sp) (tAsg (tDc wi g tt tk tv (own.map (·.2))) (gName i)) := ⟨fun pn s τ H D I h => by
  rw [exec_Assign_Name_used _ _ _ _ sw]
  refine wpAny_bind (wpAny_standAt (wpAny_bind ?_))
  have h' : tDc wi g tt tk tv (own.map (·.2)) τ H (fun x G => gName i x τ G D.nx) := h
  show wpAny _ X.A (do let _ ← comprehension (.DictComp kx vx [⟨tg, iter, ifs, 0⟩] scope pos) scope X.env (firstIterPos [⟨tg, iter, ifs, 0⟩] pos) newDict false (eval iter X.env) (some (assign (.Name y py) X.env))) _ _ s
  refine wpAny_bind (thn (dc_core (Qf := fun _ s' => SP X pn D .next s') hc hN I hi ok hg ht hk hv hs h' fun L C s' m G I' q hn ⟨f0, f1, f2, f3, f4, f5⟩ => ?_) fun _ s' hq => wpAny_pure (wpAny_pure hq))
  show wpAny _ _ (assign (.Name y py) X.env (.ref L)) _ _ _
  refine wpAny_assign_Name (store_ok2 (v := V.ref L) I' hN hy (.inl loc) rfl (fun s2 I2 ⟨a, same, ha⟩ => ?_) (.inr loc))
  have ne : C ≠ a := ha.elim (fun z => by rw [z]; exact f1) fun z q => f4 y a z q.symm
  exact ⟨m, hn.sameBut same ne, fun h3 sm3 => ⟨_, G, I2.turned (t' := s2.toks) (fun b o hb e => (sm3.2 b hb).trans e) f0 f1 f3 f4 f5, q⟩⟩⟩
end
end L2

set_option Elab.async false
set_option linter.all false
set_option maxRecDepth 100000
set_option maxHeartbeats 4000000
set_option autoImplicit false
set_option exponentiation.threshold 1000
/-! Polynomials as they are written down; tables that stand for them; their values at whole numbers. Maths. -/
namespace CN
open PySem L2 K1D K2P
theorem tot_mem {l : KI} : (l.map (·.1)).Nodup → ∀ {k c : Int}, (k, c) ∈ l → tot l k = c := by
  induction l with
  | nil => intro _ k c h; exact nomatch h
  | cons x l ih =>
    intro nd k c h
    have nd' := List.nodup_cons.mp nd
    show (if x.1 = k then x.2 else 0) + tot l k = c
    rcases List.mem_cons.mp h with e | h
    · rw [← e, if_pos rfl, tot_none fun y hy q => nd'.1 (List.mem_map.mpr ⟨y, hy, by rw [q, ← e]⟩), Int.add_zero]
    · rw [if_neg fun q => nd'.1 (List.mem_map.mpr ⟨_, h, q.symm⟩), ih nd'.2 h, Int.zero_add]
theorem tot_keyA {l : KI} {k : Int} (h : tot l k ≠ 0) : k ∈ l.map (·.1) := Classical.byContradiction fun n => h (tot_none fun x hx e => n (List.mem_map.mpr ⟨x, hx, e⟩))
theorem nodup_sub {α : Type} [DecidableEq α] : ∀ {a b : List α}, a.Nodup → (∀ x ∈ a, x ∈ b) → a.length ≤ b.length
  | [], _, _, _ => Nat.zero_le _
  | x :: a, b, nd, h => by
    have nd' := List.nodup_cons.mp nd
    have hx := h x List.mem_cons_self
    have := nodup_sub (a := a) (b := b.erase x) nd'.2 fun y hy => by
      have : y ≠ x := fun e => nd'.1 (by rw [← e]; exact hy)
      exact (List.mem_erase_of_ne this).mpr (h y (List.mem_cons_of_mem _ hy))
    rw [List.length_erase_of_mem hx] at this
    have := List.length_pos_of_mem hx
    rw [List.length_cons]
    omega
theorem nd_one {α : Type} (x : α) : [x].Nodup := List.nodup_cons.mpr ⟨(fun z => (nomatch z)), List.nodup_nil⟩
inductive Px where
  | num (k : Int) | var (i : Nat) | add (a b : Px) | sub (a b : Px) | mul (a b : Px) | scl (a : Px) (k : Int)
def radix : Nat := 20011
def negT (T : KI) : KI := T.map fun x => (x.1, x.2 * -1)
/-- the contributions to a table -/
def tabX : Px → KI
  | .num k => [(0, k)]
  | .var i => [((radix ^ i : Nat), 1)]
  | .add a b => tabX a ++ tabX b
  | .sub a b => tabX a ++ negT (tabX b)
  | .mul a b => prodL (· + ·) (tabX a) (tabX b)
  | .scl a k => (tabX a).map fun x => (x.1, x.2 * k)
/-- the value at whole numbers -/
def evX (s : Nat → Int) : Px → Int
  | .num k => k
  | .var i => s i
  | .add a b => evX s a + evX s b
  | .sub a b => evX s a - evX s b
  | .mul a b => evX s a * evX s b
  | .scl a k => evX s a * k
/-- how many contributions -/
def cnt : Px → Nat
  | .num _ => 1
  | .var _ => 1
  | .add a b => cnt a + cnt b
  | .sub a b => cnt a + cnt b
  | .mul a b => cnt a * cnt b
  | .scl a _ => cnt a
/-- the sum of all sizes -/
def norm : Px → Nat
  | .num k => k.natAbs
  | .var _ => 1
  | .add a b => norm a + norm b
  | .sub a b => norm a + norm b
  | .mul a b => norm a * norm b
  | .scl a k => norm a * k.natAbs
/-- T is a table of e -/
structure Rep (T : KI) (e : Px) : Prop where
  nz : ∀ x ∈ T, x.2 ≠ 0
  nd : (T.map (·.1)).Nodup
  tot : ∀ j, K2P.tot T j = K2P.tot (tabX e) j
/-! ### sums of sizes -/
def sumA : KI → Nat
  | [] => 0
  | x :: T => x.2.natAbs + sumA T
theorem sumA_app : ∀ a b : KI, sumA (a ++ b) = sumA a + sumA b
  | [], b => (Nat.zero_add _).symm
  | x :: a, b => by
    show x.2.natAbs + sumA (a ++ b) = x.2.natAbs + sumA a + sumA b
    rw [sumA_app a b, Nat.add_assoc]
theorem sumA_scale (k : Int) : ∀ T : KI, sumA (T.map fun x => (x.1, x.2 * k)) = sumA T * k.natAbs
  | [] => (Nat.zero_mul _).symm
  | x :: T => by
    show (x.2 * k).natAbs + sumA (T.map fun x => (x.1, x.2 * k)) = (x.2.natAbs + sumA T) * k.natAbs
    rw [sumA_scale k T, Int.natAbs_mul, Nat.add_mul]
theorem sumA_row (x : Int × Int) : ∀ q : KI, sumA (rowL (· + ·) x q) = x.2.natAbs * sumA q
  | [] => rfl
  | y :: q => by
    show (x.2 * y.2).natAbs + sumA (rowL (· + ·) x q) = x.2.natAbs * (y.2.natAbs + sumA q)
    rw [sumA_row x q, Int.natAbs_mul, Nat.mul_add]
theorem sumA_prod (q : KI) : ∀ p : KI, sumA (prodL (· + ·) p q) = sumA p * sumA q
  | [] => (Nat.zero_mul _).symm
  | x :: p => by
    rw [prodL_cons, sumA_app, sumA_row, sumA_prod q p]
    show _ = (x.2.natAbs + sumA p) * sumA q
    rw [Nat.add_mul]
theorem sumA_tab : ∀ e : Px, sumA (tabX e) = norm e
  | .num k => rfl
  | .var i => rfl
  | .add a b => by show sumA (tabX a ++ tabX b) = _; rw [sumA_app, sumA_tab a, sumA_tab b]; rfl
  | .sub a b => by
    show sumA (tabX a ++ (tabX b).map fun x => (x.1, x.2 * -1)) = _
    rw [sumA_app, sumA_scale, sumA_tab a, sumA_tab b]
    show _ + _ * 1 = _
    rw [Nat.mul_one]
    rfl
  | .mul a b => by show sumA (prodL _ _ _) = _; rw [sumA_prod, sumA_tab a, sumA_tab b]; rfl
  | .scl a k => by show sumA ((tabX a).map fun x => (x.1, x.2 * k)) = _; rw [sumA_scale, sumA_tab a]; rfl
theorem tot_sumA (j : Int) : ∀ T : KI, (tot T j).natAbs ≤ sumA T
  | [] => Nat.le_refl _
  | x :: T => by
    show ((if x.1 = j then x.2 else 0) + tot T j).natAbs ≤ x.2.natAbs + sumA T
    have := tot_sumA j T
    split <;> omega
theorem len_prodL (q : KI) : ∀ p : KI, (prodL (· + ·) p q).length = p.length * q.length
  | [] => (Nat.zero_mul _).symm
  | x :: p => by
    rw [prodL_cons, List.length_append, len_prodL q p]
    show (q.map _).length + _ = (p.length + 1) * q.length
    rw [List.length_map, Nat.succ_mul, Nat.add_comm]
theorem len_tab : ∀ e : Px, (tabX e).length = cnt e
  | .num k => rfl
  | .var i => rfl
  | .add a b => by show (tabX a ++ tabX b).length = _; rw [List.length_append, len_tab a, len_tab b]; rfl
  | .sub a b => by show (tabX a ++ negT (tabX b)).length = _; unfold negT; rw [List.length_append, List.length_map, len_tab a, len_tab b]; rfl
  | .mul a b => by show (prodL _ _ _).length = _; rw [len_prodL, len_tab a, len_tab b]; rfl
  | .scl a k => by show ((tabX a).map _).length = _; rw [List.length_map, len_tab a]; rfl
theorem Rep.bits {T : KI} {e : Px} (h : Rep T e) : ∀ x ∈ T, x.2.natAbs ≤ norm e := fun x hx => by
  have e1 := tot_mem h.nd (k := x.1) (c := x.2) hx
  rw [h.tot] at e1
  have := tot_sumA x.1 (tabX e)
  rw [sumA_tab, e1] at this
  exact this
theorem Rep.keys {T : KI} {e : Px} (h : Rep T e) : ∀ x ∈ T, ∃ y ∈ tabX e, y.1 = x.1 := fun x hx => by
  have e1 := tot_mem h.nd (k := x.1) (c := x.2) hx
  rw [h.tot] at e1
  have := tot_keyA (l := tabX e) (k := x.1) (by rw [e1]; exact h.nz x hx)
  obtain ⟨y, hy, q⟩ := List.mem_map.mp this
  exact ⟨y, hy, q⟩
/-- at most n entries in any table of e -/
def Few (n : Nat) (e : Px) : Prop := ∀ T, Rep T e → T.length ≤ n
theorem few_keys {e : Px} {L : List Int} (h : ∀ y ∈ tabX e, y.1 ∈ L) : Few L.length e := fun T r => by
  have := nodup_sub r.nd (b := L) fun k hk => by
    obtain ⟨x, hx, rfl⟩ := List.mem_map.mp hk
    obtain ⟨y, hy, q⟩ := r.keys x hx
    rw [← q]
    exact h y hy
  rw [List.length_map] at this
  exact this
theorem few_cnt (e : Px) : Few (cnt e) e := fun T r => by
  have := few_keys (e := e) (L := (tabX e).map (·.1)) (fun y hy => List.mem_map.mpr ⟨y, hy, rfl⟩) T r
  rw [List.length_map, len_tab] at this
  exact this
/-- all tables on the way are small enough -/
def Fine : Px → Prop
  | .num _ => True
  | .var _ => True
  | .add a b => Fine a ∧ Fine b ∧ ∃ m n, Few m a ∧ Few n b ∧ m + n < sizeLine
  | .sub a b => Fine a ∧ Fine b ∧ ∃ m n, Few m a ∧ Few n b ∧ m + n < sizeLine
  | .mul a b => Fine a ∧ Fine b ∧ (∃ m n, Few m a ∧ Few n b ∧ m * n < sizeLine ∧ m < sizeLine ∧ n < sizeLine) ∧ norm a < 2 ^ 400000 ∧ norm b < 2 ^ 400000
  | .scl a k => Fine a ∧ (∃ m, Few m a ∧ m < sizeLine) ∧ -(2 ^ 64) < k ∧ k < 2 ^ 64
theorem pos_cnt : ∀ e : Px, 0 < cnt e
  | .num _ => Nat.one_pos
  | .var _ => Nat.one_pos
  | .add a b => Nat.lt_of_lt_of_le (pos_cnt a) (Nat.le_add_right _ _)
  | .sub a b => Nat.lt_of_lt_of_le (pos_cnt a) (Nat.le_add_right _ _)
  | .mul a b => Nat.mul_pos (pos_cnt a) (pos_cnt b)
  | .scl a _ => pos_cnt a
/-- bits of the norm: b for a written number, 64 for a factor -/
def nb (b : Nat) : Px → Nat
  | .num _ => b
  | .var _ => 1
  | .add x y => max (nb b x) (nb b y) + 1
  | .sub x y => max (nb b x) (nb b y) + 1
  | .mul x y => nb b x + nb b y
  | .scl x _ => nb b x + 64
/-- numbers and factors are small -/
def Low (b : Nat) : Px → Prop
  | .num k => k.natAbs < 2 ^ b
  | .var _ => True
  | .add x y => Low b x ∧ Low b y
  | .sub x y => Low b x ∧ Low b y
  | .mul x y => Low b x ∧ Low b y
  | .scl x k => Low b x ∧ -(2 ^ 64) < k ∧ k < 2 ^ 64
theorem two_max {m n a b : Nat} (h : m < 2 ^ a) (g : n < 2 ^ b) : m + n < 2 ^ (max a b + 1) := by
  have h1 : (2 : Nat) ^ a ≤ 2 ^ max a b := Nat.pow_le_pow_right (by decide) (Nat.le_max_left _ _)
  have h2 : (2 : Nat) ^ b ≤ 2 ^ max a b := Nat.pow_le_pow_right (by decide) (Nat.le_max_right _ _)
  rw [Nat.pow_succ]
  omega
theorem mul_lt2 {m n a b : Nat} (h : m < 2 ^ a) (g : n < 2 ^ b) : m * n < 2 ^ (a + b) := by
  rw [Nat.pow_add]
  exact Nat.mul_lt_mul'' h g
theorem norm_nb {b : Nat} : ∀ {e : Px}, Low b e → norm e < 2 ^ nb b e
  | .num k, h => h
  | .var _, _ => by show 1 < 2 ^ 1; decide
  | .add x y, h => two_max (norm_nb h.1) (norm_nb h.2)
  | .sub x y, h => two_max (norm_nb h.1) (norm_nb h.2)
  | .mul x y, h => mul_lt2 (norm_nb h.1) (norm_nb h.2)
  | .scl x k, h => mul_lt2 (norm_nb h.1) (by have := h.2; omega)
theorem fine_of {b : Nat} : ∀ {e : Px}, Low b e → cnt e < sizeLine → nb b e ≤ 400000 → Fine e
  | .num _, _, _, _ => trivial
  | .var _, _, _, _ => trivial
  | .add x y, h, c, n => by
    have c : cnt x + cnt y < sizeLine := c
    have n : max (nb b x) (nb b y) + 1 ≤ 400000 := n
    exact ⟨fine_of h.1 (by omega) (by omega), fine_of h.2 (by omega) (by omega), _, _, few_cnt x, few_cnt y, c⟩
  | .sub x y, h, c, n => by
    have c : cnt x + cnt y < sizeLine := c
    have n : max (nb b x) (nb b y) + 1 ≤ 400000 := n
    exact ⟨fine_of h.1 (by omega) (by omega), fine_of h.2 (by omega) (by omega), _, _, few_cnt x, few_cnt y, c⟩
  | .mul x y, h, c, n => by
    have c : cnt x * cnt y < sizeLine := c
    have n : nb b x + nb b y ≤ 400000 := n
    have p1 := pos_cnt x
    have p2 := pos_cnt y
    have l1 : cnt x ≤ cnt x * cnt y := Nat.le_mul_of_pos_right _ p2
    have l2 : cnt y ≤ cnt x * cnt y := Nat.le_mul_of_pos_left _ p1
    exact ⟨fine_of h.1 (by omega) (by omega), fine_of h.2 (by omega) (by omega), ⟨_, _, few_cnt x, few_cnt y, c, by omega, by omega⟩, Nat.lt_of_lt_of_le (norm_nb h.1) (Nat.pow_le_pow_right (by decide) (by omega)), Nat.lt_of_lt_of_le (norm_nb h.2) (Nat.pow_le_pow_right (by decide) (by omega))⟩
  | .scl x k, h, c, n => by
    have c : cnt x < sizeLine := c
    have n : nb b x + 64 ≤ 400000 := n
    exact ⟨fine_of h.1 c (by omega), ⟨_, few_cnt x, c⟩, h.2⟩
/-! ### values of a table -/
/-- the table's value, B to the keys -/
def evT (B : Int) : KI → Int
  | [] => 0
  | x :: T => x.2 * B ^ x.1.toNat + evT B T
theorem evT_app (B : Int) : ∀ a b : KI, evT B (a ++ b) = evT B a + evT B b
  | [], b => (Int.zero_add _).symm
  | x :: a, b => by
    show _ + evT B (a ++ b) = _ + evT B a + evT B b
    rw [evT_app B a b]
    omega
theorem evT_scale (B k : Int) : ∀ T : KI, evT B (T.map fun x => (x.1, x.2 * k)) = evT B T * k
  | [] => (Int.zero_mul _).symm
  | x :: T => by
    show x.2 * k * B ^ x.1.toNat + evT B (T.map fun x => (x.1, x.2 * k)) = (x.2 * B ^ x.1.toNat + evT B T) * k
    rw [evT_scale B k T, Int.add_mul]
    simp only [Int.mul_assoc, Int.mul_left_comm, Int.mul_comm]
def KeysNn (T : KI) : Prop := ∀ x ∈ T, 0 ≤ x.1
theorem evT_row {B : Int} {x : Int × Int} (hx : 0 ≤ x.1) : ∀ {q : KI}, KeysNn q → evT B (rowL (· + ·) x q) = x.2 * B ^ x.1.toNat * evT B q
  | [], _ => (Int.mul_zero _).symm
  | y :: q, h => by
    show x.2 * y.2 * B ^ (x.1 + y.1).toNat + evT B (rowL (· + ·) x q) = x.2 * B ^ x.1.toNat * (y.2 * B ^ y.1.toNat + evT B q)
    have hy := h y List.mem_cons_self
    rw [evT_row hx fun z hz => h z (List.mem_cons_of_mem _ hz), Int.toNat_add hx hy, Int.pow_add, Int.mul_add]
    simp only [Int.mul_assoc, Int.mul_left_comm]
theorem evT_prod {B : Int} {q : KI} (hq : KeysNn q) : ∀ {p : KI}, KeysNn p → evT B (prodL (· + ·) p q) = evT B p * evT B q
  | [], _ => (Int.zero_mul _).symm
  | x :: p, h => by
    rw [prodL_cons, evT_app, evT_row (h x List.mem_cons_self) hq, evT_prod hq fun z hz => h z (List.mem_cons_of_mem _ hz)]
    show _ = (x.2 * B ^ x.1.toNat + evT B p) * evT B q
    rw [Int.add_mul]
theorem nn_tab : ∀ e : Px, KeysNn (tabX e)
  | .num k, x, h => by rw [List.mem_singleton.mp h]; exact Int.le_refl _
  | .var i, x, h => by rw [List.mem_singleton.mp h]; exact Int.natCast_nonneg _
  | .add a b, x, h => (List.mem_append.mp h).elim (nn_tab a x) (nn_tab b x)
  | .sub a b, x, h => (List.mem_append.mp h).elim (nn_tab a x) fun h => by
    obtain ⟨y, hy, rfl⟩ := List.mem_map.mp h
    exact nn_tab b y hy
  | .mul a b, x, h => by
    obtain ⟨y, hy, z, hz, rfl⟩ := mem_prodL'.mp h
    exact Int.add_nonneg (nn_tab a y hy) (nn_tab b z hz)
  | .scl a k, x, h => by
    obtain ⟨y, hy, rfl⟩ := List.mem_map.mp h
    exact nn_tab a y hy
where
  mem_prodL' {p q : KI} {x : Int × Int} : x ∈ prodL (· + ·) p q ↔ ∃ y ∈ p, ∃ z ∈ q, x = (y.1 + z.1, y.2 * z.2) := by
    unfold prodL rowL
    rw [List.mem_flatMap]
    constructor
    · rintro ⟨y, hy, hx⟩
      obtain ⟨z, hz, rfl⟩ := List.mem_map.mp hx
      exact ⟨y, hy, z, hz, rfl⟩
    · rintro ⟨y, hy, z, hz, rfl⟩
      exact ⟨y, hy, List.mem_map.mpr ⟨z, hz, rfl⟩⟩
/-- the unknowns as powers of B -/
def powS (B : Int) : Nat → Int := fun i => B ^ (radix ^ i)
theorem evT_tab (B : Int) : ∀ e : Px, evT B (tabX e) = evX (powS B) e
  | .num k => by show k * B ^ 0 + 0 = k; rw [Int.pow_zero]; omega
  | .var i => by
    show 1 * B ^ (((radix ^ i : Nat) : Int)).toNat + 0 = B ^ (radix ^ i)
    rw [Int.toNat_natCast]
    omega
  | .add a b => by show evT B (tabX a ++ tabX b) = _; rw [evT_app, evT_tab B a, evT_tab B b]; rfl
  | .sub a b => by
    show evT B (tabX a ++ (tabX b).map fun x => (x.1, x.2 * -1)) = evX (powS B) a - evX (powS B) b
    rw [evT_app, evT_scale, evT_tab B a, evT_tab B b]
    omega
  | .mul a b => by show evT B (prodL _ _ _) = _; rw [evT_prod (nn_tab b) (nn_tab a), evT_tab B a, evT_tab B b]; rfl
  | .scl a k => by show evT B ((tabX a).map fun x => (x.1, x.2 * k)) = _; rw [evT_scale, evT_tab B a]; rfl
/-! what is summed up counts -/
theorem evT_filter (B : Int) (g : Int) : ∀ l : KI, evT B l = tot l g * B ^ g.toNat + evT B (l.filter fun x => decide (x.1 ≠ g))
  | [] => by show (0 : Int) = 0 * _ + 0; omega
  | x :: l => by
    have ih := evT_filter B g l
    show x.2 * B ^ x.1.toNat + evT B l = ((if x.1 = g then x.2 else 0) + tot l g) * B ^ g.toNat + _
    rw [List.filter_cons]
    by_cases h : x.1 = g
    · rw [if_pos h, if_neg (by simp [h]), Int.add_mul, ih, h]
      omega
    · rw [if_neg h, if_pos (by simp [h]), Int.zero_add]
      show _ = _ + (x.2 * B ^ x.1.toNat + evT B _)
      omega
theorem totI_filter (g f : Int) (h : f ≠ g) : ∀ l : KI, tot (l.filter fun x => decide (x.1 ≠ g)) f = tot l f
  | [] => rfl
  | x :: l => by
    rw [List.filter_cons]
    by_cases q : x.1 = g
    · rw [if_neg (by simp [q]), totI_filter g f h l]
      show _ = (if x.1 = f then x.2 else 0) + tot l f
      rw [if_neg fun z => h (by rw [← z, q]), Int.zero_add]
    · rw [if_pos (by simp [q])]
      show (if x.1 = f then x.2 else 0) + tot _ f = (if x.1 = f then x.2 else 0) + tot l f
      rw [totI_filter g f h l]
theorem evT_zero (B : Int) : ∀ (n : Nat) (l : KI), l.length ≤ n → (∀ f, tot l f = 0) → evT B l = 0
  | _, [], _, _ => rfl
  | 0, x :: l, h, _ => by cases h
  | n + 1, x :: l, h, z => by
    rw [evT_filter B x.1, z, Int.zero_mul, Int.zero_add]
    refine evT_zero B n _ ?_ fun f => ?_
    · rw [List.filter_cons, if_neg (by simp)]
      have := List.length_filter_le (fun y : Int × Int => decide (y.1 ≠ x.1)) l
      rw [List.length_cons] at h
      omega
    · by_cases q : f = x.1
      · rw [q]
        exact tot_none fun y hy => by simpa using (List.mem_filter.mp hy).2
      · rw [totI_filter _ _ q, z]
theorem tot_neg (f : Int) : ∀ l : KI, tot (negT l) f = - tot l f
  | [] => rfl
  | x :: l => by
    show (if x.1 = f then x.2 * -1 else 0) + tot (negT l) f = - ((if x.1 = f then x.2 else 0) + tot l f)
    rw [tot_neg f l]
    split <;> omega
theorem evT_ext (B : Int) {a b : KI} (h : ∀ f, tot a f = tot b f) : evT B a = evT B b := by
  have := evT_zero B _ (a ++ negT b) (Nat.le_refl _) fun f => by rw [tot_app, tot_neg, h]; omega
  have e2 : evT B (negT b) = evT B b * -1 := evT_scale B (-1) b
  rw [evT_app, e2] at this
  omega
theorem Rep.ev {T : KI} {e : Px} (h : Rep T e) (B : Int) : evT B T = evX (powS B) e := (evT_ext B h.tot).trans (evT_tab B e)
/-- a table that is not empty has a value that is not 0 -/
theorem Rep.nnk {T : KI} {e : Px} (h : Rep T e) : KeysNn T := fun x hx => by
  obtain ⟨y, hy, q⟩ := h.keys x hx
  rw [← q]
  exact nn_tab e y hy
theorem evT_low {B : Nat} {K : Nat} : ∀ {T : KI}, (∀ x ∈ T, x.1.toNat ≤ K) → (evT (B : Int) T).natAbs ≤ sumA T * B ^ K ∨ B = 0
  | [], _ => .inl (by show 0 ≤ _; exact Nat.zero_le _)
  | x :: T, h => by
    rcases Nat.eq_zero_or_pos B with z | z
    · exact .inr z
    · rcases evT_low (B := B) (K := K) (T := T) (fun y hy => h y (List.mem_cons_of_mem _ hy)) with ih | ih
      · left
        show (x.2 * (B : Int) ^ x.1.toNat + evT B T).natAbs ≤ (x.2.natAbs + sumA T) * B ^ K
        have h1 : (x.2 * (B : Int) ^ x.1.toNat).natAbs ≤ x.2.natAbs * B ^ K := by
          rw [Int.natAbs_mul, Int.natAbs_pow, Int.natAbs_natCast]
          exact Nat.mul_le_mul_left _ (Nat.pow_le_pow_right z (h x List.mem_cons_self))
        rw [Nat.add_mul]
        omega
      · omega
theorem top_key : ∀ {T : KI}, T ≠ [] → ∃ x ∈ T, ∀ y ∈ T, y.1 ≤ x.1
  | [x], _ => ⟨x, List.mem_singleton.mpr rfl, fun y hy => by rw [List.mem_singleton.mp hy]; exact Int.le_refl _⟩
  | x :: z :: T, _ => by
    obtain ⟨y, hy, m⟩ := top_key (T := z :: T) (by simp)
    by_cases q : y.1 ≤ x.1
    · exact ⟨x, List.mem_cons_self, fun u hu => (List.mem_cons.mp hu).elim (fun e => by rw [e]; exact Int.le_refl _) fun hu => Int.le_trans (m u hu) q⟩
    · exact ⟨y, List.mem_cons_of_mem _ hy, fun u hu => (List.mem_cons.mp hu).elim (fun e => by rw [e]; omega) (m u)⟩
theorem sumA_filter (f : Int × Int → Bool) : ∀ T : KI, sumA (T.filter f) ≤ sumA T
  | [] => Nat.le_refl _
  | x :: T => by
    rw [List.filter_cons]
    have := sumA_filter f T
    split
    · show _ + _ ≤ _ + _; omega
    · show _ ≤ _ + _; omega
theorem evT_ne {T : KI} (nz : ∀ x ∈ T, x.2 ≠ 0) (nd : (T.map (·.1)).Nodup) (nn : KeysNn T) (ne : T ≠ []) : evT ((sumA T + 1 : Nat) : Int) T ≠ 0 := by
  obtain ⟨x, hx, m⟩ := top_key ne
  have e := evT_filter ((sumA T + 1 : Nat) : Int) x.1 T
  rw [tot_mem nd (k := x.1) (c := x.2) hx] at e
  have nx := nz x hx
  intro z
  rw [z] at e
  have rest : evT ((sumA T + 1 : Nat) : Int) (T.filter fun y => decide (y.1 ≠ x.1)) = - (x.2 * ((sumA T + 1 : Nat) : Int) ^ x.1.toNat) := by omega
  have low : ∀ y ∈ T.filter (fun y => decide (y.1 ≠ x.1)), y.1 < x.1 := fun y hy => by
    have h1 := (List.mem_filter.mp hy).1
    have h2 : y.1 ≠ x.1 := by simpa using (List.mem_filter.mp hy).2
    have := m y h1
    omega
  have big : (sumA T + 1) ^ x.1.toNat ≤ (evT ((sumA T + 1 : Nat) : Int) (T.filter fun y => decide (y.1 ≠ x.1))).natAbs := by
    rw [rest, Int.natAbs_neg, Int.natAbs_mul, Int.natAbs_pow, Int.natAbs_natCast]
    exact Nat.le_mul_of_pos_left _ (Int.natAbs_pos.mpr nx)
  by_cases k0 : x.1.toNat = 0
  · have none : T.filter (fun y => decide (y.1 ≠ x.1)) = [] := by
      rw [List.eq_nil_iff_forall_not_mem]
      intro y hy
      have h1 := low y hy
      have h2 := nn y (List.mem_filter.mp hy).1
      omega
    rw [none] at big
    have p : 0 < (sumA T + 1) ^ x.1.toNat := Nat.pow_pos (Nat.succ_pos _)
    have : (evT ((sumA T + 1 : Nat) : Int) []).natAbs = 0 := rfl
    omega
  · rcases evT_low (B := sumA T + 1) (K := x.1.toNat - 1) (T := T.filter fun y => decide (y.1 ≠ x.1)) (fun y hy => by have := low y hy; omega) with h | h
    · have s := sumA_filter (fun y => decide (y.1 ≠ x.1)) T
      have p : 0 < (sumA T + 1) ^ (x.1.toNat - 1) := Nat.pow_pos (Nat.succ_pos _)
      have q : (sumA T + 1) ^ x.1.toNat = (sumA T + 1) ^ (x.1.toNat - 1) * (sumA T + 1) := by rw [← Nat.pow_succ]; congr 1; omega
      have r : sumA (T.filter fun y => decide (y.1 ≠ x.1)) * (sumA T + 1) ^ (x.1.toNat - 1) ≤ sumA T * (sumA T + 1) ^ (x.1.toNat - 1) := Nat.mul_le_mul_right _ s
      have t : (sumA T + 1) ^ (x.1.toNat - 1) * (sumA T + 1) = sumA T * (sumA T + 1) ^ (x.1.toNat - 1) + (sumA T + 1) ^ (x.1.toNat - 1) := by rw [Nat.mul_comm, Nat.succ_mul]
      omega
    · omega
/-- a polynomial that is 0 at all whole numbers has the empty table -/
theorem Rep.empty {T : KI} {e : Px} (h : Rep T e) (z : ∀ s, evX s e = 0) : T = [] := Classical.byContradiction fun ne => evT_ne h.nz h.nd h.nnk ne (by rw [h.ev]; exact z _)
/-- one that is not 0 at some powers hasn't -/
theorem Rep.there {T : KI} {e : Px} (h : Rep T e) {B : Int} (z : evX (powS B) e ≠ 0) : T ≠ [] := fun q => z (by rw [← h.ev B, q]; rfl)
/-! ### from expressions to tables -/
theorem rep_num (k : Int) : Rep (if k = 0 then [] else [(0, k)]) (.num k) := by
  by_cases h : k = 0
  · rw [if_pos h, h]
    exact ⟨(fun x h => (nomatch h)), List.nodup_nil, fun j => by show (0 : Int) = (if (0 : Int) = j then 0 else 0) + 0; split <;> rfl⟩
  · rw [if_neg h]
    exact ⟨fun x hx => by rw [List.mem_singleton.mp hx]; exact h, nd_one _, fun j => rfl⟩
theorem rep_var (i : Nat) : Rep [((radix ^ i : Nat), 1)] (.var i) := ⟨fun x hx => by rw [List.mem_singleton.mp hx]; exact Int.one_ne_zero, nd_one _, fun j => rfl⟩
theorem tot_sc (k j : Int) : ∀ T : KI, tot (T.map fun x => (x.1, x.2 * k)) j = tot T j * k
  | [] => (Int.zero_mul _).symm
  | x :: T => by
    show (if x.1 = j then x.2 * k else 0) + tot (T.map fun x => (x.1, x.2 * k)) j = ((if x.1 = j then x.2 else 0) + tot T j) * k
    rw [tot_sc k j T, Int.add_mul]
    split <;> omega
theorem rep_scl {T : KI} {e : Px} (h : Rep T e) {k : Int} (k0 : k ≠ 0) : Rep (T.map fun x => (x.1, x.2 * k)) (.scl e k) := by
  refine ⟨fun x hx => ?_, by rw [List.map_map]; exact h.nd, fun j => ?_⟩
  · obtain ⟨y, hy, rfl⟩ := List.mem_map.mp hx
    exact Int.mul_ne_zero (h.nz y hy) k0
  · show _ = tot ((tabX e).map fun x => (x.1, x.2 * k)) j
    rw [tot_sc, tot_sc, h.tot]
theorem rep_scl0 {e : Px} : Rep [] (.scl e 0) := ⟨(fun x h => (nomatch h)), List.nodup_nil, fun j => by
  show (0 : Int) = tot ((tabX e).map fun x => (x.1, x.2 * 0)) j
  rw [tot_sc, Int.mul_zero]⟩
theorem rep_mul {T S R : KI} {a b : Px} (h : Rep T a) (g : Rep S b) (p : ProdR T S R) (nd : (R.map (·.1)).Nodup) : Rep R (.mul a b) :=
  ⟨p.nz, nd, fun j => by
    rw [p.tot]
    exact tot_prod_ext (· + ·) (fun a b => Int.add_comm a b) h.tot g.tot j⟩
/-! the sum, step by step -/
def dropT (T : KI) (k : Int) : KI := T.filter fun x => decide (x.1 ≠ k)
def plusO (T : KI) (x : Int × Int) : KI := if getT T x.1 + x.2 ≠ 0 then putT T x.1 (getT T x.1 + x.2) else dropT T x.1
def plusT (T S : KI) : KI := S.foldl plusO T
theorem plusT_take {S : KI} {i : Nat} {x : Int × Int} (h : S[i]? = some x) (T : KI) : plusT T (S.take (i + 1)) = plusO (plusT T (S.take i)) x := by
  unfold plusT
  rw [take_snoc h, List.foldl_append]
  rfl
theorem nd_drop {T : KI} (h : (T.map (·.1)).Nodup) (k : Int) : ((dropT T k).map (·.1)).Nodup := h.sublist (List.filter_sublist.map _)
theorem nd_plusO {T : KI} (h : (T.map (·.1)).Nodup) (x : Int × Int) : ((plusO T x).map (·.1)).Nodup := by
  unfold plusO
  split
  · exact nodup_putT h _ _
  · exact nd_drop h _
theorem nz_plusO {T : KI} (h : ∀ x ∈ T, x.2 ≠ 0) (x : Int × Int) : ∀ y ∈ plusO T x, y.2 ≠ 0 := fun y hy => by
  unfold plusO at hy
  split at hy
  · rename_i z
    rcases mem_put hy with q | q
    · exact h y q
    · rw [q]; exact z
  · exact h y (List.mem_filter.mp hy).1
where
  mem_put {T : KI} {k c : Int} {x : Int × Int} (h : x ∈ putT T k c) : x ∈ T ∨ x.2 = c := by
    unfold putT at h
    split at h
    · obtain ⟨y, hy, e⟩ := List.mem_map.mp h
      split at e
      · rw [← e]; exact .inr rfl
      · rw [← e]; exact .inl hy
    · rcases List.mem_append.mp h with h | h
      · exact .inl h
      · rw [List.mem_singleton.mp h]; exact .inr rfl
theorem tot_plusO {T : KI} (h : (T.map (·.1)).Nodup) (x : Int × Int) (j : Int) : tot (plusO T x) j = tot T j + if x.1 = j then x.2 else 0 := by
  unfold plusO
  split
  · rw [← getT_tot (nodup_putT h _ _), ← getT_tot h, getT_put]
    by_cases e : j = x.1
    · rw [if_pos e, if_pos e.symm, e]
    · rw [if_neg e, if_neg (fun z => e z.symm), Int.add_zero]
  · rename_i z
    by_cases e : j = x.1
    · have e1 : tot (dropT T x.1) j = 0 := tot_none fun y hy q => by
        have : y.1 ≠ x.1 := by simpa [dropT] using (List.mem_filter.mp hy).2
        exact this (q.trans e)
      rw [e1, if_pos e.symm, e, ← getT_tot h]
      simp only [ne_eq, Decidable.not_not] at z
      omega
    · rw [if_neg (fun z => e z.symm), Int.add_zero]
      exact totI_filter x.1 j e T
theorem plusT_ok {S : KI} : ∀ {T : KI}, (T.map (·.1)).Nodup → (∀ x ∈ T, x.2 ≠ 0) → ((plusT T S).map (·.1)).Nodup ∧ (∀ x ∈ plusT T S, x.2 ≠ 0) ∧ ∀ j, tot (plusT T S) j = tot T j + tot S j := by
  induction S with
  | nil => exact fun h z => ⟨h, z, fun j => (Int.add_zero _).symm⟩
  | cons x S ih =>
    intro T h z
    obtain ⟨h1, h2, h3⟩ := ih (nd_plusO h x) (nz_plusO z x)
    refine ⟨h1, h2, fun j => ?_⟩
    have e := tot_plusO h x j
    show tot (plusT (plusO T x) S) j = tot T j + ((if x.1 = j then x.2 else 0) + tot S j)
    rw [h3, e]
    omega
theorem len_plusO (T : KI) (x : Int × Int) : (plusO T x).length ≤ T.length + 1 := by
  unfold plusO
  split
  · exact len_putT _ _ _
  · exact Nat.le_succ_of_le (List.length_filter_le _ _)
theorem len_plusT (S : KI) : ∀ T : KI, (plusT T S).length ≤ T.length + S.length := by
  induction S with
  | nil => exact fun T => Nat.le_refl _
  | cons x S ih =>
    intro T
    have h1 := ih (plusO T x)
    have h2 := len_plusO T x
    show (plusT (plusO T x) S).length ≤ T.length + (S.length + 1)
    omega
theorem rep_add {T S : KI} {a b : Px} (h : Rep T a) (g : Rep S b) : Rep (plusT T S) (.add a b) := by
  obtain ⟨h1, h2, h3⟩ := plusT_ok (S := S) h.nd h.nz
  exact ⟨h2, h1, fun j => by rw [h3, h.tot, g.tot]; exact (tot_app _ _ j).symm⟩
theorem rep_sub {T S : KI} {a b : Px} (h : Rep T a) (g : Rep S b) : Rep (plusT T (S.map fun x => (x.1, x.2 * -1))) (.sub a b) := by
  obtain ⟨h1, h2, h3⟩ := plusT_ok (S := S.map fun x => (x.1, x.2 * -1)) h.nd h.nz
  exact ⟨h2, h1, fun j => by
    rw [h3, tot_sc, h.tot, g.tot]
    show _ = tot (tabX a ++ negT (tabX b)) j
    rw [tot_app, tot_neg]
    omega⟩
end CN

set_option Elab.async false
set_option linter.all false
set_option maxRecDepth 100000
set_option maxHeartbeats 4000000
set_option autoImplicit false
set_option pp.maxSteps 300
/-! figurehold.tables: number, scaled, plus, minus, times, of what is written down. -/
namespace CN
open PySem L2 K1D K2P
abbrev sNumber : Stmt := K2P.top 43
abbrev sScaled : Stmt := K2P.top 45
abbrev sPlus : Stmt := K2P.top 47
abbrev sMinus : Stmt := K2P.top 49
/-- at v a table of e -/
def TabE (H : Hp) (v : V) (e : Px) : Prop := ∃ (d : Addr) (T : KI), v = .ref d ∧ TabAt H d T ∧ Rep T e
theorem TabE.up {H G : Hp} {v : V} {e : Px} (h : TabE H v e) (s : Same H G) : TabE G v e := by
  obtain ⟨d, T, e1, h1, h2⟩ := h
  exact ⟨d, T, e1, h1.up s, h2⟩
def spNum : Sp := fun vs H Q _ => ∃ k : Int, vs = [.int k] ∧ ∀ (v : V) (G : Hp), Same H G → TabE G v (.num k) → Q v G
def spScl : Sp := fun vs H Q _ => ∃ (v : V) (k : Int) (e : Px), vs = [v, .int k] ∧ TabE H v e ∧ Fine (.scl e k) ∧ ∀ (u : V) (G : Hp), Same H G → TabE G u (.scl e k) → Q u G
def spOp2 (op : Px → Px → Px) : Sp := fun vs H Q _ => ∃ (u v : V) (a b : Px), vs = [u, v] ∧ TabE H u a ∧ TabE H v b ∧ Fine (op a b) ∧ ∀ (z : V) (G : Hp), Same H G → TabE G z (op a b) → Q z G
theorem dropK_mpT (T : KI) (k : Int) : dropK (mpT eI T) (eI k) = mpT eI (dropT T k) := by
  unfold dropK dropT mpT
  rw [List.filter_map]
  congr 1
  refine List.filter_congr fun x _ => ?_
  show decide (eI x.1 ≠ eI k) = decide (x.1 ≠ k)
  exact decide_eq_decide.mpr (not_congr ⟨fun h => eI_inj _ _ h, fun h => by rw [h]⟩)
theorem isSome_mpT {T : KI} {k : Int} : (valV (mpT eI T) (eI k)).isSome = (valT T k).isSome := by
  rw [valV_mpT eI_inj, Option.isSome_map]
theorem put_id {T : KI} (nd : (T.map (·.1)).Nodup) {i : Nat} {y : Int × Int} (h : T[i]? = some y) : putT (T.take i) y.1 y.2 = T.take (i + 1) := by
  rw [take_snoc h]
  refine put_new fun q => ?_
  obtain ⟨x, hx, ex⟩ := List.mem_map.mp q
  obtain ⟨j, hj⟩ := List.mem_iff_getElem?.mp hx
  rw [List.getElem?_take] at hj
  split at hj
  · rename_i lj
    have e1 : (T.map (·.1))[j]? = some y.1 := by rw [List.getElem?_map, hj]; exact congrArg some ex
    have e2 : (T.map (·.1))[i]? = some y.1 := by rw [List.getElem?_map, h]; rfl
    have := (List.getElem?_inj (List.getElem?_eq_some_iff.mp e1).1 nd).mp (e1.trans e2.symm)
    omega
  · cases hj
theorem put_sc {T : KI} (nd : (T.map (·.1)).Nodup) (k : Int) {i : Nat} {y : Int × Int} (h : T[i]? = some y) : putT ((T.take i).map fun x => (x.1, x.2 * k)) y.1 (y.2 * k) = (T.take (i + 1)).map fun x => (x.1, x.2 * k) := by
  have nd2 : ((T.map fun x => (x.1, x.2 * k)).map (·.1)).Nodup := by rw [List.map_map]; exact nd
  have h2 : (T.map fun x => (x.1, x.2 * k))[i]? = some (y.1, y.2 * k) := by rw [List.getElem?_map, h]; rfl
  have := put_id nd2 h2
  rw [← List.map_take, ← List.map_take] at this
  exact this
theorem getD_mp {T : KI} {k : Int} : (valV (mpT eI T) (eI k)).getD (.int 0) = .int (getT T k) := getD_mpT eI_inj T k
section
variable {P : Program} {w : World} {K : PySem.W.Frag} {mg : Str → Option Value} {base : Heap}
theorem scNumber : FnScope ["k"] ["k"] (defScope sNumber) := ⟨rfl, rfl, rfl, by decide +kernel, rfl, by decide +kernel, by decide +kernel⟩
theorem ok_num {f : Addr} {fd : FuncData} (F : Fun K "number" "number" sNumber f fd) : FnOk P w K mg base CX0 1 f fd ["k"] spNum := by
  refine F.ok scNumber (fun vs H Q E h => ?_) (fun cdv A outer s H vs Q E hr h => ?_)
  · obtain ⟨k, rfl, _⟩ := h
    rfl
  · obtain ⟨k, rfl, go⟩ := h
    refine ⟨_, pss_one (ps_ret (pe_ifExp (pt_cmpR op_ne (pv 0) pe_int (nomark _)) (pe_disp (pps_cons pe_int (pv 0) pps_nil) rfl rfl (by simp) (by decide)) pe_dnewK)), ?_⟩
    refine ⟨_, rfl, rfl, _, rfl, ?_⟩
    have rn := rep_num k
    by_cases z : k = 0
    · rw [if_pos z] at rn
      refine ifN (by simp [z]) (fun p hp => go (.ref p) _ (same_new hp) ⟨p, [], rfl, ⟨?_, rn.nd⟩, rn⟩)
      rw [upd_same]; rfl
    · rw [if_neg z] at rn
      refine ifY (by simp [z]) (fun p hp => ?_)
      refine ⟨_, rfl, upd_same, [(.inl 0, .int k)], rfl, by show 1 ≤ 15; omega, ?_⟩
      rw [upd_upd]
      refine go (.ref p) _ (same_new hp) ⟨p, [(0, k)], rfl, ⟨?_, rn.nd⟩, rn⟩
      rw [upd_same]
      rfl
theorem scScaled : FnScope ["p", "k", "key", "many"] ["p", "k"] (defScope sScaled) := ⟨rfl, rfl, rfl, by decide +kernel, rfl, by decide +kernel, by decide +kernel⟩
theorem ok_scl {f : Addr} {fd : FuncData} (F : Fun K "scaled" "scaled" sScaled f fd) : FnOk P w K mg base CX0 1 f fd ["p", "k"] spScl := by
  refine F.ok scScaled (fun vs H Q E h => ?_) (fun cdv A outer s H vs Q E hr h => ?_)
  · obtain ⟨v, k, e, rfl, _⟩ := h
    rfl
  · obtain ⟨v, k, e, rfl, ⟨d, T, rfl, hd, rp⟩, ⟨_, ⟨n, few, ns⟩, k1, k2⟩, go⟩ := h
    refine ⟨_, pss_cons (ps_if (pt_cmpR op_eq (pv 1) pe_int (nomark _)) (pss_one (ps_ret pe_dnewK)) pss_nil)
      (pss_one (ps_lock (ps_ret (pe_dc (own := [("key", 2), ("many", 3)]) (g := gTup K 2 (gCons (gName 2) (gCons (gName 3) gNil))) (tt := tYes) (tk := tVar 2) (tv := tOp (rI CMul fun i j => .int (i * j)) (tVar 3) (tVar 1)) rfl scScaled.nd (pi_items (pv 0)) (blkOk_by (own := [("key", 2), ("many", 3)]) (N := ["p", "k", "key", "many"]) (sc := defScope sScaled) (by decide +kernel))
        (fun _ _ _ _ _ => pg_tup rfl (pgs_cons (pg_name (i := 2) scScaled.nd rfl (Or.inl rfl)) (pgs_cons (pg_name (i := 3) scScaled.nd rfl (Or.inl rfl)) pgs_nil))) (fun _ _ _ _ _ => pts_nil)
        (fun _ _ _ _ _ => pv 2) (fun _ _ _ _ _ => pe_op op_mul (pv 3) (pv 1)))))), ?_⟩
    have lT : T.length < sizeLine := Nat.lt_of_le_of_lt (few T rp) ns
    refine ⟨_, rfl, rfl, _, rfl, ?_⟩
    by_cases k0 : k = 0
    · subst k0
      refine ifY (by decide) fun p hp => go (.ref p) _ (same_new hp) ⟨p, [], rfl, ⟨?_, (rep_scl0 (e := e)).nd⟩, rep_scl0⟩
      rw [upd_same]; rfl
    refine ifN (by simp [k0]) ?_
    refine ⟨d, _, hd.1, True.intro, fun od => ?_⟩
    have l0 : LkT d od (.dK (mpT eI T)) H (upd H d (.frz od (.dK (mpT eI T)))) := LkT.start
    generalize upd H d (.frz od (.dK (mpT eI T))) = F0 at l0 ⊢
    refine ⟨_, rfl, d, od, _, rfl, l0.1, fun D nD => ?_⟩
    have Dd : D ≠ d := fun z => by rw [z, l0.1] at nD; cases nD
    have HD : H D = none := by
      cases q : H D with
      | none => rfl
      | some o => rw [l0.2 _ _ Dd q] at nD; cases nD
    refine blk_n (o := fun D => .dK []) (n := (mpT eI T).length) (fun (i : Nat) (G : Hp) => LkT d od (.dK (mpT eI T)) H G ∧ G D = some (.dK (mpT eI ((T.take i).map fun x => (x.1, x.2 * k)))))
      ⟨l0.new nD, upd_same⟩ (fun i G hi ⟨l, _⟩ => ⟨l.1, hi⟩) (fun G ⟨l, _⟩ => ⟨l.1, Nat.le_refl _⟩) (fun i G x G' hi ⟨l, h1⟩ hy => ?_) (fun G ⟨l, h1⟩ => ?_)
    · obtain ⟨t, kk, v, hkv, rfl, nt, rfl⟩ := hy
      obtain ⟨y, hy, rfl, rfl⟩ := at_mpT hkv
      have l2 := l.new (o := .tup [kV (eI y.1), .int y.2]) nt
      have ht : upd G t (.tup [kV (eI y.1), .int y.2]) t = some (.tup [kV (eI y.1), .int y.2]) := upd_same
      have h2 : upd G t (.tup [kV (eI y.1), .int y.2]) D = some (.dK (mpT eI ((T.take i).map fun x => (x.1, x.2 * k)))) := (upd_ne (ne_of_none h1 nt)).trans h1
      generalize upd G t (.tup [kV (eI y.1), .int y.2]) = G2 at l2 ht h2 ⊢
      refine ⟨t, _, rfl, SqT.of ht, rfl, _, _, rfl, _, _, rfl, rfl, rfl, _, rfl, _, rfl, _, rfl, _, _, rfl, rfl, .inr ⟨k1, k2⟩, _, eI y.1, rfl, h2, by rw [len_mpT, List.length_map, List.length_take]; omega, l2.set Dd HD, ?_⟩
      rw [upd_same, putK_mpT eI_inj, put_sc hd.2 k hy]
    · rw [len_mpT, List.take_length] at h1
      have rs := rep_scl rp k0
      refine ⟨l.1, go (.ref D) _ (l.done hd.1) ⟨D, _, rfl, ⟨(upd_ne Dd).trans h1, rs.nd⟩, rs⟩⟩
theorem scPlus : FnScope ["p", "q", "key", "out", "many", "both"] ["p", "q"] (defScope sPlus) := ⟨rfl, rfl, rfl, by decide +kernel, rfl, by decide +kernel, by decide +kernel⟩
/-- the sum of two tables -/
def spPlu : Sp := fun vs H Q _ => ∃ (d e : Addr) (T S : KI), vs = [.ref d, .ref e] ∧ TabAt H d T ∧ TabAt H e S ∧ T.length + S.length < sizeLine ∧ (∀ x ∈ S, x.2 ≠ 0) ∧ ∀ (r : Addr) (G : Hp), Same H G → H r = none → G r = some (.dK (mpT eI (plusT T S))) → Q (.ref r) G
theorem ok_plu {f : Addr} {fd : FuncData} (F : Fun K "plus" "plus" sPlus f fd) : FnOk P w K mg base CX0 1 f fd ["p", "q"] spPlu := by
  refine F.ok scPlus (fun vs H Q E h => ?_) (fun cdv A outer s H vs Q E hr h => ?_)
  · obtain ⟨d, e, T, S, rfl, _⟩ := h
    rfl
  · obtain ⟨d, e, T, S, rfl, hd, he, hl, nz, go⟩ := h
    refine ⟨_, pss_cons (ps_lock (ps_setDc (i := 3) (own := [("key", 2)]) (g := gName 2) (tt := tYes) (tk := tVar 2) (tv := tDGet (tVar 0) (tVar 2)) rfl scPlus.nd rfl rfl rfl (pi_keys (pv 0)) (blkOk_by (own := [("key", 2)]) (N := ["p", "q", "key", "out", "many", "both"]) (sc := defScope sPlus) (by decide +kernel))
        (fun _ _ _ _ _ => pg_name (i := 2) scPlus.nd rfl (Or.inl rfl)) (fun _ _ _ _ _ => pts_nil) (fun _ _ _ _ _ => pv 2) (fun _ _ _ _ _ => pe_dget (hu1 hr) (pv 0) (pv 2) (fun _ _ => rfl))))
      (pss_cons (ps_lock (ps_for PassesOwn.never rfl (pi_items (pv 1)) (pg_tup rfl (pgs_cons (pg_name (i := 2) scPlus.nd rfl (Or.inl rfl)) (pgs_cons (pg_name (i := 4) scPlus.nd rfl (Or.inl rfl)) pgs_nil)))
        (pss_cons (ps_set (i := 5) scPlus.nd rfl (Or.inl rfl) (pe_op op_add (pe_dget2 (hu1 hr) (pv 3) (pv 2) pe_int ⟨rfl, rfl, rfl, rfl⟩) (pv 4)))
          (pss_one (ps_if (pt_cmpR op_ne (pv 5) pe_int (nomark _)) (pss_one (ps_dput (hu1 hr) (pv 3) (pv 2) (pv 5) rfl)) (pss_one (ps_ddel (pv 3) (pv 2))))))))
      (pss_one (ps_ret (pv 3)))), ?_⟩
    refine ⟨d, _, hd.1, True.intro, fun od => ?_⟩
    have l0 : LkT d od (.dK (mpT eI T)) H (upd H d (.frz od (.dK (mpT eI T)))) := LkT.start
    generalize upd H d (.frz od (.dK (mpT eI T))) = F0 at l0 ⊢
    refine ⟨_, rfl, d, od, rfl, .inl ⟨_, l0.1, fun D nD => ?_⟩⟩
    have Dd : D ≠ d := fun z => by rw [z, l0.1] at nD; cases nD
    have HD : H D = none := by
      cases q : H D with
      | none => rfl
      | some o => rw [l0.2 _ _ Dd q] at nD; cases nD
    refine blk_n (o := fun D => .dK []) (n := (mpT eI T).length) (fun (i : Nat) (G : Hp) => LkT d od (.dK (mpT eI T)) H G ∧ G D = some (.dK (mpT eI (T.take i))))
      ⟨l0.new nD, upd_same⟩ (fun i G hi ⟨l, _⟩ => ⟨l.1, hi⟩) (fun G ⟨l, _⟩ => ⟨l.1, Nat.le_refl _⟩) (fun i G x F' hi ⟨l, h1⟩ hy => ?_) (fun G ⟨l, h1⟩ => ?_)
    · obtain ⟨rfl, kk, v, hkv, rfl⟩ := hy
      obtain ⟨y, hy, rfl, rfl⟩ := at_mpT hkv
      have gd : DGet F' d (kV (eI y.1)) (valV (mpT eI T) (eI y.1)) := .inl ⟨_, _, .inr ⟨od, l.1⟩, rfl, rfl⟩
      have ev : valV (mpT eI T) (eI y.1) = some (.int y.2) := by rw [valV_mpT eI_inj, (valT_mem hd.2).mpr (show (y.1, y.2) ∈ T from List.mem_of_getElem? hy)]; rfl
      rw [ev] at gd
      refine ⟨rfl, _, rfl, _, rfl, _, rfl, d, _, rfl, gd, _, eI y.1, rfl, h1, by rw [len_mpT, List.length_take]; omega, l.set Dd HD, ?_⟩
      rw [upd_same, putK_mpT eI_inj, put_id hd.2 hy]
    · rw [len_mpT, List.take_length] at h1
      have sm := l.done hd.1
      refine ⟨l.1, ?_⟩
      have hD2 : upd G d (.dK (mpT eI T)) D = some (.dK (mpT eI T)) := (upd_ne Dd).trans h1
      generalize upd G d (.dK (mpT eI T)) = G1 at sm hD2 ⊢
      have eD : e ≠ D := ne_of_none he.1 HD
      refine ⟨e, _, sm _ _ he.1, True.intro, fun oe => ?_⟩
      have lE : LkT e oe (.dK (mpT eI S)) H (upd G1 e (.frz oe (.dK (mpT eI S)))) := ⟨upd_same, fun a o ne q => (upd_ne ne).trans (sm a o q)⟩
      have gD : upd G1 e (.frz oe (.dK (mpT eI S))) D = some (.dK (mpT eI T)) := (upd_ne (Ne.symm eD)).trans hD2
      generalize upd G1 e (.frz oe (.dK (mpT eI S))) = F1 at lE gD ⊢
      refine ⟨_, rfl, e, oe, _, rfl, lE.1, for_n (n := (mpT eI S).length) (fun (i : Nat) (σ : L2.St) (F : Hp) => ∃ u2 u4 u5 : Option V, σ = [some (.ref d), some (.ref e), u2, some (.ref D), u4, u5] ∧ LkT e oe (.dK (mpT eI S)) H F ∧ F D = some (.dK (mpT eI (plusT T (S.take i)))))
        ⟨_, _, _, rfl, lE, gD⟩ (fun i σ F hi ⟨_, _, _, _, l, _⟩ => ⟨l.1, hi⟩) (fun σ F ⟨_, _, _, _, l, _⟩ => ⟨l.1, Nat.le_refl _⟩) (fun i σ F x F' hi ⟨u2, u4, u5, hσ, l, h1⟩ hy => ?_) (fun σ F ⟨u2, u4, u5, hσ, l, h1⟩ => ?_)⟩
      · subst hσ
        obtain ⟨t, kk, v, hkv, rfl, nt, rfl⟩ := hy
        obtain ⟨y, hy, rfl, rfl⟩ := at_mpT hkv
        have l2 := l.new (o := .tup [kV (eI y.1), .int y.2]) nt
        have ht : upd F t (.tup [kV (eI y.1), .int y.2]) t = some (.tup [kV (eI y.1), .int y.2]) := upd_same
        have h2 : upd F t (.tup [kV (eI y.1), .int y.2]) D = some (.dK (mpT eI (plusT T (S.take i)))) := (upd_ne (ne_of_none h1 nt)).trans h1
        generalize upd F t (.tup [kV (eI y.1), .int y.2]) = G2 at l2 ht h2 ⊢
        have g1 := DGet.k (k := eI y.1) h2
        have lp := len_plusT (S.take i) T
        rw [List.length_take] at lp
        have iS : i < S.length := (List.getElem?_eq_some_iff.mp hy).1
        refine ⟨t, _, rfl, SqT.of ht, rfl, _, _, rfl, _, _, rfl, rfl, ?_⟩
        refine ⟨_, rfl, D, rfl, .inl ⟨_, .inl h2⟩, _, rfl, _, g1, ?_⟩
        rw [getD_mp]
        refine ⟨_, rfl, _, _, rfl, rfl, _, rfl, rfl, _, rfl, ?_⟩
        have next := plusT_take hy T
        have yz := nz y (List.mem_of_getElem? hy)
        by_cases z : getT (plusT T (S.take i)) y.1 + y.2 = 0
        · refine ifN (by simp [z]) ?_
          have sm' : (valV (mpT eI (plusT T (S.take i))) (eI y.1)).isSome = true := by
            rw [isSome_mpT]
            unfold getT at z
            cases q : valT (plusT T (S.take i)) y.1 with
            | none => rw [q] at z; exact absurd (by simpa using z) yz
            | some v => rfl
          refine ⟨_, rfl, _, rfl, D, _, eI y.1, rfl, h2, rfl, sm', _, _, _, rfl, l2.set (Ne.symm eD) HD, ?_⟩
          rw [upd_same, dropK_mpT, next]
          unfold plusO
          rw [if_neg fun q => q z]
        · refine ifY (by simp [z]) ?_
          refine ⟨_, rfl, _, rfl, _, rfl, D, _, rfl, DPut.k (k := eI y.1) h2 (by rw [len_mpT]; omega), ?_⟩
          rw [putK_mpT eI_inj]
          refine ⟨_, _, _, rfl, l2.set (Ne.symm eD) HD, ?_⟩
          rw [upd_same, next]
          unfold plusO
          rw [if_pos z]
      · subst hσ
        rw [len_mpT, List.take_length] at h1
        exact ⟨l.1, _, rfl, go D _ (l.done he.1) HD ((upd_ne (Ne.symm eD)).trans h1)⟩
theorem ok_plus2 {f : Addr} {fd : FuncData} (F : Fun K "plus" "plus" sPlus f fd) : FnOk P w K mg base CX0 1 f fd ["p", "q"] (spOp2 .add) :=
  fn_imp (ok_plu F) fun vs H Q E ⟨u, v, a, b, ev, ⟨d, T, eu, hd, rT⟩, ⟨e, S, ew, he, rS⟩, ⟨_, _, m, n, fm, fn, mn⟩, go⟩ => by
    subst eu ew
    have h1 := fm T rT
    have h2 := fn S rS
    refine ⟨d, e, T, S, ev, hd, he, by omega, rS.nz, fun r G s n e => ?_⟩
    have ra := rep_add rT rS
    exact go (.ref r) G s ⟨r, _, rfl, ⟨e, ra.nd⟩, ra⟩
theorem scMinus : FnScope ["p", "q"] ["p", "q"] (defScope sMinus) := ⟨rfl, rfl, rfl, by decide +kernel, rfl, by decide +kernel, by decide +kernel⟩
theorem fn_sub {fP fS : Addr} {dP dS : FuncData} {f : Addr} {fd : FuncData} (F : Fun K "minus" "minus" sMinus f fd) (GP : FnOk P w K mg base CX0 1 fP dP ["p", "q"] spPlu) (bP : Binds K dP ["p", "q"] []) (gP : mg "plus_tables" = some (.ref fP)) (kP : PySem.W.keepIn K (.ref fP) = true)
    (GS : FnOk P w K mg base CX0 1 fS dS ["p", "k"] spScl) (bS : Binds K dS ["p", "k"] []) (gS : mg "scaled_tables" = some (.ref fS)) (kS : PySem.W.keepIn K (.ref fS) = true) : FnOk P w K mg base CX0 2 f fd ["p", "q"] (spOp2 .sub) := by
  refine F.ok scMinus (fun vs H Q E h => ?_) (fun cdv A outer s H vs Q E hr h => ?_)
  · obtain ⟨u, v, a, b, rfl, _⟩ := h
    rfl
  · obtain ⟨u, v, a, b, rfl, ⟨d, T, rfl, hd, rT⟩, ⟨e, S, rfl, he, rS⟩, ⟨_, fb, m, n, fm, fn, mn⟩, go⟩ := h
    refine ⟨_, pss_one (ps_ret (pe_call GP hr rfl gP kP bP .nil pass0 (pa_cons (pv 0) (pa_cons (pe_call GS hr rfl gS kS bS .nil pass0 (pa_cons (pv 1) (pa_cons (pe_un un_neg pe_int) pa_nil))) pa_nil)))), ?_⟩
    have h1 := fm T rT
    have h2 := fn S rS
    have fs : Few n (.scl b (-1)) := fun R r => by
      have q : Rep (R.map fun x => (x.1, x.2 * -1)) b := ⟨fun x hx => by
          obtain ⟨y, hy, rfl⟩ := List.mem_map.mp hx
          have := r.nz y hy
          show y.2 * -1 ≠ 0
          omega, by rw [List.map_map]; exact r.nd, fun j => by
          rw [tot_sc, r.tot]
          show tot ((tabX b).map fun x => (x.1, x.2 * -1)) j * -1 = _
          rw [tot_sc]
          omega⟩
      have := fn _ q
      rw [List.length_map] at this
      exact this
    refine ⟨_, rfl, _, rfl, _, rfl, .ref e, -1, b, rfl, ⟨e, S, rfl, he, rS⟩, ⟨fb, ⟨n, fn, by omega⟩, by decide, by decide⟩, fun u G1 s1 t1 => ?_⟩
    obtain ⟨c, R, rfl, hc, rR⟩ := t1
    have h3 := fs R rR
    refine ⟨d, c, T, R, rfl, hd.up s1, hc, by omega, rR.nz, fun r G2 s2 n2 e2 => ?_⟩
    have ra := rep_add rT rR
    have rs : Rep (plusT T R) (.sub a b) := ⟨ra.nz, ra.nd, fun j => by
      rw [ra.tot]
      show tot (tabX a ++ (tabX b).map fun x => (x.1, x.2 * -1)) j = tot (tabX a ++ negT (tabX b)) j
      rfl⟩
    exact go (.ref r) G2 (s1.trans s2) ⟨r, _, rfl, ⟨e2, rs.nd⟩, rs⟩
theorem bits_of {T : KI} {e : Px} (r : Rep T e) (h : norm e < 2 ^ 400000) : Bits 400000 T := fun x hx => Nat.lt_of_le_of_lt (r.bits x hx) h
theorem ok_tim {f : Addr} {fd : FuncData} (G : FnOk P w K mg base CX0 3 f fd ["p", "q"] spTimes) : FnOk P w K mg base CX0 3 f fd ["p", "q"] (spOp2 .mul) :=
  fn_imp G fun vs H Q E ⟨u, v, a, b, ev, ⟨d, T, eu, hd, rT⟩, ⟨e, S, ew, he, rS⟩, ⟨_, _, ⟨m, n, fm, fn, mn, ms, ns⟩, na, nb⟩, go⟩ => by
    subst eu ew
    have h1 := fm T rT
    have h2 := fn S rS
    have h3 := Nat.mul_le_mul h1 h2
    exact ⟨d, e, T, S, 400000, 400000, ev, hd, he, by omega, by omega, by omega, bits_of rT na, bits_of rS nb, by decide, by decide, by decide, fun r R G s n t p => go (.ref r) G s ⟨r, R, rfl, t, rep_mul rT rS p t.2⟩⟩
end
end CN

set_option Elab.async false
set_option linter.all false
set_option maxRecDepth 100000
set_option maxHeartbeats 4000000
set_option autoImplicit false
set_option pp.maxSteps 300
/-! Tables' methods; how expressions come to tables; three tables, a point. -/
namespace CN
open PySem L2 K1D K2P
/-- a function's call by its name; a method's -/
structure CallT (P : Program) (w : World) (K : PySem.W.Frag) (mg : Str → Option Value) (base : Heap) (CX : CXT) (k : Nat) (x : Str) (ps : List Str) (sp : Sp) (f : Addr) (d : FuncData) : Prop where
  ok : FnOk P w K mg base CX k f d ps sp
  b : Binds K d ps []
  g : mg x = some (.ref f)
  k : PySem.W.keepIn K (.ref f) = true
structure MethT (P : Program) (w : World) (K : PySem.W.Frag) (mg : Str → Option Value) (base : Heap) (CX : CXT) (C : Addr) (k : Nat) (x : Str) (ps : List Str) (sp : Sp) (f : Addr) (d : FuncData) : Prop where
  ok : FnOk P w K mg base CX k f d ps sp
  b : Binds K d ps []
  m : Meth K C x f
abbrev sRing (i : Nat) : Stmt := inClass (K2P.top 55) i
def RingAt (C : Addr) (H : Hp) (v : V) : Prop := ∃ ρ dx, v = .ref ρ ∧ H ρ = some (.ins C dx [])
theorem RingAt.up {C : Addr} {H G : Hp} {v : V} (h : RingAt C H v) (s : Same H G) : RingAt C G v := by
  obtain ⟨ρ, dx, e, h⟩ := h
  exact ⟨ρ, dx, e, s _ _ h⟩
def spR2 (op : Px → Px → Px) : Sp := fun vs H Q _ => ∃ (z u v : V) (a b : Px), vs = [z, u, v] ∧ TabE H u a ∧ TabE H v b ∧ Fine (op a b) ∧ ∀ (x : V) (G : Hp), Same H G → TabE G x (op a b) → Q x G
def spRS : Sp := fun vs H Q _ => ∃ (z u : V) (k : Int) (a : Px), vs = [z, u, .int k] ∧ TabE H u a ∧ Fine (.scl a k) ∧ ∀ (x : V) (G : Hp), Same H G → TabE G x (.scl a k) → Q x G
def spRN : Sp := fun vs H Q _ => ∃ (z : V) (k : Int), vs = [z, .int k] ∧ ∀ (x : V) (G : Hp), Same H G → TabE G x (.num k) → Q x G
section
variable {P : Program} {w : World} {K : PySem.W.Frag} {mg : Str → Option Value} {base : Heap}
theorem scR0 : FnScope ["self", "k"] ["self", "k"] (defScope (sRing 0)) := ⟨rfl, rfl, rfl, by decide +kernel, rfl, by decide +kernel, by decide +kernel⟩
theorem scR1 : FnScope ["self", "p", "k"] ["self", "p", "k"] (defScope (sRing 1)) := ⟨rfl, rfl, rfl, by decide +kernel, rfl, by decide +kernel, by decide +kernel⟩
theorem scR2 : FnScope ["self", "p", "q"] ["self", "p", "q"] (defScope (sRing 2)) := ⟨rfl, rfl, rfl, by decide +kernel, rfl, by decide +kernel, by decide +kernel⟩
theorem scR3 : FnScope ["self", "p", "q"] ["self", "p", "q"] (defScope (sRing 3)) := ⟨rfl, rfl, rfl, by decide +kernel, rfl, by decide +kernel, by decide +kernel⟩
theorem scR4 : FnScope ["self", "p", "q"] ["self", "p", "q"] (defScope (sRing 4)) := ⟨rfl, rfl, rfl, by decide +kernel, rfl, by decide +kernel, by decide +kernel⟩
theorem ok_r0 {f g : Addr} {fd gd : FuncData} (F : Fun K "number" "Tables.number" (sRing 0) f fd) (U : CallT P w K mg base CX0 1 "number_tables" ["k"] spNum g gd) : FnOk P w K mg base CX0 4 f fd ["self", "k"] spRN := by
  refine F.ok scR0 (fun vs H Q E h => ?_) (fun cdv A outer s H vs Q E hr h => ?_)
  · obtain ⟨z, k, rfl, _⟩ := h
    rfl
  · obtain ⟨z, k, rfl, go⟩ := h
    refine ⟨_, pss_one (ps_ret (pe_call U.ok (hr.mono (by decide)) rfl U.g U.k U.b .nil pass0 (pa_cons (pv 1) pa_nil))), ?_⟩
    exact ⟨_, rfl, k, rfl, go⟩
theorem ok_r1 {f g : Addr} {fd gd : FuncData} (F : Fun K "scaled" "Tables.scaled" (sRing 1) f fd) (U : CallT P w K mg base CX0 1 "scaled_tables" ["p", "k"] spScl g gd) : FnOk P w K mg base CX0 4 f fd ["self", "p", "k"] spRS := by
  refine F.ok scR1 (fun vs H Q E h => ?_) (fun cdv A outer s H vs Q E hr h => ?_)
  · obtain ⟨z, u, k, a, rfl, _⟩ := h
    rfl
  · obtain ⟨z, u, k, a, rfl, tu, fi, go⟩ := h
    refine ⟨_, pss_one (ps_ret (pe_call U.ok (hr.mono (by decide)) rfl U.g U.k U.b .nil pass0 (pa_cons (pv 1) (pa_cons (pv 2) pa_nil)))), ?_⟩
    exact ⟨_, rfl, _, rfl, u, k, a, rfl, tu, fi, go⟩
theorem ok_r2 {f g : Addr} {fd gd : FuncData} (F : Fun K "plus" "Tables.plus" (sRing 2) f fd) (U : CallT P w K mg base CX0 1 "plus_tables" ["p", "q"] (spOp2 .add) g gd) : FnOk P w K mg base CX0 4 f fd ["self", "p", "q"] (spR2 .add) := by
  refine F.ok scR2 (fun vs H Q E h => ?_) (fun cdv A outer s H vs Q E hr h => ?_)
  · obtain ⟨z, u, v, a, b, rfl, _⟩ := h
    rfl
  · obtain ⟨z, u, v, a, b, rfl, tu, tv, fi, go⟩ := h
    refine ⟨_, pss_one (ps_ret (pe_call U.ok (hr.mono (by decide)) rfl U.g U.k U.b .nil pass0 (pa_cons (pv 1) (pa_cons (pv 2) pa_nil)))), ?_⟩
    exact ⟨_, rfl, _, rfl, u, v, a, b, rfl, tu, tv, fi, go⟩
theorem ok_r3 {f g : Addr} {fd gd : FuncData} (F : Fun K "minus" "Tables.minus" (sRing 3) f fd) (U : CallT P w K mg base CX0 2 "minus_tables" ["p", "q"] (spOp2 .sub) g gd) : FnOk P w K mg base CX0 4 f fd ["self", "p", "q"] (spR2 .sub) := by
  refine F.ok scR3 (fun vs H Q E h => ?_) (fun cdv A outer s H vs Q E hr h => ?_)
  · obtain ⟨z, u, v, a, b, rfl, _⟩ := h
    rfl
  · obtain ⟨z, u, v, a, b, rfl, tu, tv, fi, go⟩ := h
    refine ⟨_, pss_one (ps_ret (pe_call U.ok (hr.mono (by decide)) rfl U.g U.k U.b .nil pass0 (pa_cons (pv 1) (pa_cons (pv 2) pa_nil)))), ?_⟩
    exact ⟨_, rfl, _, rfl, u, v, a, b, rfl, tu, tv, fi, go⟩
theorem ok_r4 {f g : Addr} {fd gd : FuncData} (F : Fun K "times" "Tables.times" (sRing 4) f fd) (U : CallT P w K mg base CX0 3 "times_tables" ["p", "q"] (spOp2 .mul) g gd) : FnOk P w K mg base CX0 4 f fd ["self", "p", "q"] (spR2 .mul) := by
  refine F.ok scR4 (fun vs H Q E h => ?_) (fun cdv A outer s H vs Q E hr h => ?_)
  · obtain ⟨z, u, v, a, b, rfl, _⟩ := h
    rfl
  · obtain ⟨z, u, v, a, b, rfl, tu, tv, fi, go⟩ := h
    refine ⟨_, pss_one (ps_ret (pe_call U.ok hr rfl U.g U.k U.b .nil pass0 (pa_cons (pv 1) (pa_cons (pv 2) pa_nil)))), ?_⟩
    exact ⟨_, rfl, _, rfl, u, v, a, b, rfl, tu, tv, fi, go⟩
end
/-! ### expressions that come to tables -/
/-- the expression comes to a table of e, at every later heap -/
def EvT (σ : L2.St) (H : Hp) (t : TE) (e : Px) : Prop := ∀ G, Same H G → ∀ Q : VK, (∀ v F, Same G F → TabE F v e → Q v F) → t σ G Q
section
variable {σ : L2.St} {H G : Hp} {t t1 t2 : TE} {a b e : Px} {i j : Nat} {v : V} {C : Addr} {m : Str}
theorem EvT.up (h : EvT σ H t e) (s : Same H G) : EvT σ G t e := fun F s1 Q go => h F (s.trans s1) Q go
theorem ev_var (hs : σ[i]? = some (some v)) (h : TabE H v e) : EvT σ H (tVar i) e := fun G s Q go => ⟨v, hs, go v G (Same.refl G) (h.up s)⟩
theorem ev_op {op : Px → Px → Px} (hs : σ[i]? = some (some v)) (hr : RingAt C H v) (n : ([] : List (Str × V)).lookup m = none := by rfl) (h1 : EvT σ H t1 a) (h2 : EvT σ H t2 b) (f : Fine (op a b)) : EvT σ H (tMeth C m (spR2 op) [] E0 (tVar i) (tCons t1 (tCons t2 tNil))) (op a b) := fun G s Q go => by
  obtain ⟨ρ, dx, rfl, hρ⟩ := hr
  refine ⟨_, hs, ρ, dx, [], rfl, s _ _ hρ, n, h1 G s _ fun u F s1 tu => h2 F (s.trans s1) _ fun w F2 s2 tw => ?_⟩
  exact ⟨_, u, w, a, b, rfl, tu.up s2, tw, f, fun x F3 s3 tx => go x F3 (s1.trans (s2.trans s3)) tx⟩
/-- a number that stands -/
def EvI (σ : L2.St) (t : TE) (k : Int) : Prop := ∀ (G : Hp) (Q : VK), Q (.int k) G → t σ G Q
theorem evi_c {k : Int} : EvI σ (tC (.int k)) k := fun G Q h => h
theorem evi_v {k : Int} (hs : σ[i]? = some (some (.int k))) : EvI σ (tVar i) k := fun G Q h => ⟨_, hs, h⟩
theorem evi_neg {k : Int} (h : EvI σ t k) : EvI σ (tUn (rU fun i => .int (-i)) t) (-k) := fun G Q q => h G _ ⟨k, rfl, q⟩
theorem ev_scl {k : Int} (hs : σ[i]? = some (some v)) (hr : RingAt C H v) (n : ([] : List (Str × V)).lookup m = none := by rfl) (h1 : EvT σ H t1 a) (h2 : EvI σ t2 k) (f : Fine (.scl a k)) : EvT σ H (tMeth C m spRS [] E0 (tVar i) (tCons t1 (tCons t2 tNil))) (.scl a k) := fun G s Q go => by
  obtain ⟨ρ, dx, rfl, hρ⟩ := hr
  refine ⟨_, hs, ρ, dx, [], rfl, s _ _ hρ, n, h1 G s _ fun u F s1 tu => h2 F _ ?_⟩
  exact ⟨_, u, k, a, rfl, tu, f, fun x F3 s3 tx => go x F3 (s1.trans s3) tx⟩
theorem ev_num {k : Int} (hs : σ[i]? = some (some v)) (hr : RingAt C H v) (n : ([] : List (Str × V)).lookup m = none := by rfl) (h2 : EvI σ t2 k) : EvT σ H (tMeth C m spRN [] E0 (tVar i) (tCons t2 tNil)) (.num k) := fun G s Q go => by
  obtain ⟨ρ, dx, rfl, hρ⟩ := hr
  exact ⟨_, hs, ρ, dx, [], rfl, s _ _ hρ, n, h2 G _ ⟨_, k, rfl, go⟩⟩
end
/-! ### points -/
structure P3 where
  x : Px
  y : Px
  w : Px
def P3.at (p : P3) (k : Nat) : Px := if k = 0 then p.x else if k = 1 then p.y else p.w
structure Fine3 (p : P3) : Prop where
  x : Fine p.x
  y : Fine p.y
  w : Fine p.w
theorem Fine3.at {p : P3} (h : Fine3 p) (k : Nat) : Fine (p.at k) := by
  unfold P3.at
  split
  · exact h.x
  · split
    · exact h.y
    · exact h.w
def TripE (H : Hp) (v : V) (p : P3) : Prop := ∃ t u0 u1 u2, v = .ref t ∧ H t = some (.tup [u0, u1, u2]) ∧ TabE H u0 p.x ∧ TabE H u1 p.y ∧ TabE H u2 p.w
theorem TripE.up {H G : Hp} {v : V} {p : P3} (h : TripE H v p) (s : Same H G) : TripE G v p := by
  obtain ⟨t, u0, u1, u2, e, h0, h1, h2, h3⟩ := h
  exact ⟨t, u0, u1, u2, e, s _ _ h0, h1.up s, h2.up s, h3.up s⟩
/-- the expression comes to a point -/
def EvP (σ : L2.St) (H : Hp) (t : TE) (p : P3) : Prop := ∀ G, Same H G → ∀ Q : VK, (∀ v F, Same G F → TripE F v p → Q v F) → t σ G Q
section
variable {K : PySem.W.Frag} {σ : L2.St} {H G : Hp} {t t0 t1 t2 t3 t4 : TE} {p q r s4 : P3} {e a b c : Px} {i j : Nat} {v : V} {C : Addr}
theorem EvP.up (h : EvP σ H t p) (s : Same H G) : EvP σ G t p := fun F s1 Q go => h F (s.trans s1) Q go
theorem evp_var (hs : σ[i]? = some (some v)) (h : TripE H v p) : EvP σ H (tVar i) p := fun G s Q go => ⟨v, hs, go v G (Same.refl G) (h.up s)⟩
/-- p[k] -/
theorem ev_ix {k : Nat} (k3 : k < 3) (h : EvP σ H t p) (hk : EvI σ t2 (k : Int)) : EvT σ H (tOp (rIxT K) t t2) (p.at k) := fun G s Q go => h G s _ fun v F s1 tv => hk F _ (by
  obtain ⟨t, u0, u1, u2, rfl, h0, h1, h2, h3⟩ := tv
  match k, k3 with
  | 0, _ => exact ⟨t, _, _, u0, rfl, rfl, SqT.of h0, atI_nat rfl, go u0 F s1 h1⟩
  | 1, _ => exact ⟨t, _, _, u1, rfl, rfl, SqT.of h0, atI_nat rfl, go u1 F s1 h2⟩
  | 2, _ => exact ⟨t, _, _, u2, rfl, rfl, SqT.of h0, atI_nat rfl, go u2 F s1 h3⟩)
theorem evp_tup (h0 : EvT σ H t0 p.x) (h1 : EvT σ H t1 p.y) (h2 : EvT σ H t2 p.w) : EvP σ H (tTup (tCons t0 (tCons t1 (tCons t2 tNil)))) p := fun G s Q go =>
  h0 G s _ fun u0 F0 s0 e0 => h1 F0 (s.trans s0) _ fun u1 F1 s1 e1 => h2 F1 (s.trans (s0.trans s1)) _ fun u2 F2 s2 e2 => ⟨by show 3 ≤ sizeLine; decide, fun d nd => by
    have s3 : Same F2 (upd F2 d (.tup [u0, u1, u2])) := same_new nd
    exact go (.ref d) _ (s0.trans (s1.trans (s2.trans s3))) ⟨d, u0, u1, u2, rfl, upd_same, e0.up (s1.trans (s2.trans s3)), e1.up (s2.trans s3), e2.up s3⟩⟩
/-! statements -/
theorem st_asg {D : Ends} {rest : TS} (h : EvT σ H t e) (go : ∀ v G, Same H G → TabE G v e → rest D (σ.set i (some v)) G) : (tSeq (tAsg t (gName i)) rest) D σ H := h H (Same.refl H) _ fun v F s1 tv => go v F s1 tv
theorem st_asgp {D : Ends} {rest : TS} (h : EvP σ H t p) (go : ∀ v G, Same H G → TripE G v p → rest D (σ.set i (some v)) G) : (tSeq (tAsg t (gName i)) rest) D σ H := h H (Same.refl H) _ fun v F s1 tv => go v F s1 tv
theorem TabE.set {D : Addr} {xs ys : List V} (h : TabE H v e) (hD : H D = some (.lst xs)) : TabE (upd H D (.lst ys)) v e := by
  obtain ⟨d, T, e1, ⟨h1, h2⟩, h3⟩ := h
  exact ⟨d, T, e1, ⟨(upd_ne fun z => by rw [z, hD] at h1; cases h1).trans h1, h2⟩, h3⟩
/-- [e for at in range(2)] -/
theorem lc_two {te : TE} {f : Nat → Px} {Q : VK} (hw : ∀ k : Int, wipe ((wipe σ [j]).set j (some (.int k))) [j] = wipe σ [j]) (he : ∀ k : Nat, k < 2 → EvT ((wipe σ [j]).set j (some (.int (k : Int)))) H te (f k))
    (go : ∀ D G u0 u1, Same H G → G D = some (.lst [u0, u1]) → TabE G u0 (f 0) → TabE G u1 (f 1) → Q (.ref D) G) : (tLc (iRng1 (tCons (tC (.int 2)) tNil)) (gName j) tYes te [j]) σ H Q := by
  refine ⟨2, rfl, by decide, by decide, fun D nD => ?_⟩
  refine lc_it (walk_range (lo := 0) (n := 2)) (fun (i : Nat) (G : Hp) => Same H G ∧ ∃ us : List V, G D = some (.lst us) ∧ us.length = i ∧ ∀ k u, us[k]? = some u → TabE G u (f k)) ⟨same_new nD, [], upd_same, rfl, fun k u h => by simp at h⟩ (fun _ _ _ _ => trivial) (fun i x G G' hi ⟨s, us, h1, h2, h3⟩ ⟨e1, ev⟩ => ?_) (fun G ⟨s, us, h1, h2, h3⟩ => ?_)
  · subst e1 ev
    have z : ((0 : Int) + (i : Int)) = (i : Int) := by omega
    show (gName j (.int (0 + (i : Int))) (wipe σ [j]) G' _)
    rw [z]
    refine ⟨hw _, he i hi G' s _ fun v F s1 tv => ?_⟩
    refine ⟨us, s1 _ _ h1, by rw [h2, sizeLine_eq]; omega, fun b o q => (upd_ne (ne_of_none q nD)).trans (s1 _ _ (s _ _ q)), us ++ [v], upd_same, by rw [List.length_append, h2]; rfl, fun k u hk => ?_⟩
    by_cases kl : k < us.length
    · rw [List.getElem?_append_left kl] at hk
      exact ((h3 k u hk).up s1).set (s1 _ _ h1)
    · rw [List.getElem?_append_right (by omega)] at hk
      have k0 : k - us.length = 0 := by
        have := (List.getElem?_eq_some_iff.mp hk).1
        simp at this
        omega
      rw [k0] at hk
      cases hk
      have : k = i := by omega
      rw [this]
      exact tv.set (s1 _ _ h1)
  · match us, h2 with
    | [u0, u1], _ => exact go D G u0 u1 s h1 (h3 0 u0 rfl) (h3 1 u1 rfl)
theorem st_two {te : TE} {f : Nat → Px} {D : Ends} {rest : TS} (hw : ∀ k : Int, wipe ((wipe σ [j]).set j (some (.int k))) [j] = wipe σ [j]) (he : ∀ k : Nat, k < 2 → EvT ((wipe σ [j]).set j (some (.int (k : Int)))) H te (f k))
    (go : ∀ l G u0 u1, Same H G → G l = some (.lst [u0, u1]) → TabE G u0 (f 0) → TabE G u1 (f 1) → rest D (σ.set i (some (.ref l))) G) : (tSeq (tAsg (tLc (iRng1 (tCons (tC (.int 2)) tNil)) (gName j) tYes te [j]) (gName i)) rest) D σ H := lc_two (Q := fun x H1 => rest D (σ.set i (some x)) H1) hw he go
theorem ev_lix {l : Addr} {us : List V} {k : Nat} {u : V} (hs : σ[i]? = some (some (.ref l))) (hl : H l = some (.lst us)) (hu : us[k]? = some u) (h : TabE H u e) : EvT σ H (tOp (rIxL K) (tVar i) (tC (.int (k : Int)))) e := fun G s Q go =>
  ⟨_, hs, l, us, _, u, rfl, rfl, SqL.of (s _ _ hl), atI_nat hu, go u G (Same.refl G) (h.up s)⟩
end
end CN

set_option Elab.async false
set_option linter.all false
set_option maxRecDepth 100000
set_option maxHeartbeats 8000000
set_option autoImplicit false
set_option pp.maxSteps 300
/-! figurehold.making: the makers. -/
namespace CN
open PySem L2 K1D K2P
abbrev sDif : Stmt := K2P.top 26
abbrev sPlaced : Stmt := K2P.top 27
abbrev sSlid : Stmt := K2P.top 28
abbrev sParted : Stmt := K2P.top 29
abbrev sMoved : Stmt := K2P.top 30
abbrev sShifted : Stmt := K2P.top 31
abbrev sTurned : Stmt := K2P.top 32
abbrev sBeyond : Stmt := K2P.top 33
abbrev sFoot : Stmt := K2P.top 34
abbrev sMirrored : Stmt := K2P.top 35
abbrev sSecond : Stmt := K2P.top 36
abbrev sCrossed : Stmt := K2P.top 37
abbrev sMeet : Stmt := K2P.top 38
abbrev sCentre : Stmt := K2P.top 39
/-! ### what they make -/
def difX (a b : P3) (k : Nat) : Px := .sub (.mul (b.at k) a.w) (.mul (a.at k) b.w)
def placedX (x y : Px) : P3 := ⟨x, y, .num 1⟩
def slidX (a b : P3) (t : Px) : P3 := ⟨.add (.mul (a.at 0) b.w) (.mul t (difX a b 0)), .add (.mul (a.at 1) b.w) (.mul t (difX a b 1)), .mul a.w b.w⟩
def partX (a b : P3) (n d : Int) : P3 := ⟨.add (.scl (.mul (a.at 0) b.w) d) (.scl (difX a b 0) n), .add (.scl (.mul (a.at 1) b.w) d) (.scl (difX a b 1) n), .scl (.mul a.w b.w) d⟩
def movedX (q : P3) (across up weight : Px) : P3 := ⟨.add (.mul q.x weight) (.mul q.w across), .add (.mul q.y weight) (.mul q.w up), .mul q.w weight⟩
def shiftX (q a b : P3) : P3 := movedX q (difX a b 0) (difX a b 1) (.mul a.w b.w)
def turnX (q a b : P3) : P3 := movedX q (.scl (difX a b 1) (-1)) (difX a b 0) (.mul a.w b.w)
def overX (q c : P3) : P3 := ⟨.sub (.scl (.mul (c.at 0) q.w) 2) (.mul (q.at 0) c.w), .sub (.scl (.mul (c.at 1) q.w) 2) (.mul (q.at 1) c.w), .mul c.w q.w⟩
def squareX (a b : P3) : Px := .add (.mul (difX a b 0) (difX a b 0)) (.mul (difX a b 1) (difX a b 1))
def alongX (q a b : P3) : Px := .add (.mul (difX a q 0) (difX a b 0)) (.mul (difX a q 1) (difX a b 1))
def footX (q a b : P3) : P3 := ⟨.add (.mul a.x (.mul q.w (squareX a b))) (.mul (alongX q a b) (difX a b 0)), .add (.mul a.y (.mul q.w (squareX a b))) (.mul (alongX q a b) (difX a b 1)), .mul a.w (.mul q.w (squareX a b))⟩
def mirrorX (q a b : P3) : P3 := overX q (footX q a b)
def secondX (a b o : P3) : P3 := overX a (footX o a b)
def crossX (a b : P3) : P3 := ⟨.sub (.mul a.y b.w) (.mul a.w b.y), .sub (.mul a.w b.x) (.mul a.x b.w), .sub (.mul a.x b.y) (.mul a.y b.x)⟩
def meetX (a b c d : P3) : P3 := crossX (crossX a b) (crossX c d)
def centreX (a b c : P3) : P3 := meetX (partX a b 1 2) (turnX (partX a b 1 2) a b) (partX a c 1 2) (turnX (partX a c 1 2) a c)
theorem fine_over {q c : P3} (h : Fine3 (overX q c)) : Fine3 q ∧ Fine3 c := by
  obtain ⟨⟨⟨h1, _⟩, h2, _⟩, ⟨⟨h3, _⟩, h4, _⟩, h5, h6, _⟩ := h
  exact ⟨⟨h2.1, h4.1, h6⟩, ⟨h1.1, h3.1, h5⟩⟩
theorem fine_cross {a b : P3} (h : Fine3 (crossX a b)) : Fine3 a ∧ Fine3 b := by
  obtain ⟨⟨h1, h2, _⟩, ⟨h3, h4, _⟩, h5, h6, _⟩ := h
  exact ⟨⟨h4.1, h1.1, h2.1⟩, ⟨h3.2.1, h2.2.1, h1.2.1⟩⟩
theorem fine_meet {a b c d : P3} (h : Fine3 (meetX a b c d)) : Fine3 (crossX a b) ∧ Fine3 (crossX c d) := fine_cross h
theorem fine_turn {q a b : P3} (h : Fine3 (turnX q a b)) : Fine3 q := by
  obtain ⟨⟨h1, h2, _⟩, ⟨h3, _, _⟩, h5⟩ := h
  exact ⟨h1.1, h3.1, h5.1⟩
/-! ### promises -/
def spDif (C : Addr) : Sp := fun vs H Q _ => ∃ (z u v : V) (a b : P3) (k : Nat), vs = [z, u, v, .int k] ∧ RingAt C H z ∧ TripE H u a ∧ TripE H v b ∧ k < 2 ∧ Fine (difX a b k) ∧ ∀ (x : V) (G : Hp), Same H G → TabE G x (difX a b k) → Q x G
def spPlaced (C : Addr) : Sp := fun vs H Q _ => ∃ (z u v : V) (a b : Px), vs = [z, u, v] ∧ RingAt C H z ∧ TabE H u a ∧ TabE H v b ∧ ∀ (x : V) (G : Hp), Same H G → TripE G x (placedX a b) → Q x G
def spSlid (C : Addr) : Sp := fun vs H Q _ => ∃ (z u v t : V) (a b : P3) (e : Px), vs = [z, u, v, t] ∧ RingAt C H z ∧ TripE H u a ∧ TripE H v b ∧ TabE H t e ∧ Fine3 (slidX a b e) ∧ ∀ (x : V) (G : Hp), Same H G → TripE G x (slidX a b e) → Q x G
def spParted (C : Addr) : Sp := fun vs H Q _ => ∃ (z u v : V) (a b : P3) (n d : Int), vs = [z, u, v, .int n, .int d] ∧ RingAt C H z ∧ TripE H u a ∧ TripE H v b ∧ Fine3 (partX a b n d) ∧ ∀ (x : V) (G : Hp), Same H G → TripE G x (partX a b n d) → Q x G
def spMoved (C : Addr) : Sp := fun vs H Q _ => ∃ (z u e1 e2 e3 : V) (q : P3) (a b c : Px), vs = [z, u, e1, e2, e3] ∧ RingAt C H z ∧ TripE H u q ∧ TabE H e1 a ∧ TabE H e2 b ∧ TabE H e3 c ∧ Fine3 (movedX q a b c) ∧ ∀ (x : V) (G : Hp), Same H G → TripE G x (movedX q a b c) → Q x G
def spM2 (C : Addr) (f : P3 → P3 → P3) : Sp := fun vs H Q _ => ∃ (z u v : V) (a b : P3), vs = [z, u, v] ∧ RingAt C H z ∧ TripE H u a ∧ TripE H v b ∧ Fine3 (f a b) ∧ ∀ (x : V) (G : Hp), Same H G → TripE G x (f a b) → Q x G
def spM3 (C : Addr) (f : P3 → P3 → P3 → P3) : Sp := fun vs H Q _ => ∃ (z u v t : V) (a b c : P3), vs = [z, u, v, t] ∧ RingAt C H z ∧ TripE H u a ∧ TripE H v b ∧ TripE H t c ∧ Fine3 (f a b c) ∧ ∀ (x : V) (G : Hp), Same H G → TripE G x (f a b c) → Q x G
def spM4 (C : Addr) (f : P3 → P3 → P3 → P3 → P3) : Sp := fun vs H Q _ => ∃ (z u v t y : V) (a b c d : P3), vs = [z, u, v, t, y] ∧ RingAt C H z ∧ TripE H u a ∧ TripE H v b ∧ TripE H t c ∧ TripE H y d ∧ Fine3 (f a b c d) ∧ ∀ (x : V) (G : Hp), Same H G → TripE G x (f a b c d) → Q x G
structure RingT (P : Program) (w : World) (K : PySem.W.Frag) (mg : Str → Option Value) (base : Heap) (C f0 f1 f2 f3 f4 : Addr) (d0 d1 d2 d3 d4 : FuncData) : Prop where
  cl : Cls K C
  num : MethT P w K mg base CX0 C 4 "number" ["self", "k"] spRN f0 d0
  scl : MethT P w K mg base CX0 C 4 "scaled" ["self", "p", "k"] spRS f1 d1
  add : MethT P w K mg base CX0 C 4 "plus" ["self", "p", "q"] (spR2 .add) f2 d2
  sub : MethT P w K mg base CX0 C 4 "minus" ["self", "p", "q"] (spR2 .sub) f3 d3
  mul : MethT P w K mg base CX0 C 4 "times" ["self", "p", "q"] (spR2 .mul) f4 d4
/-! calls of defs in expressions -/
section
variable {σ : L2.St} {H G : Hp} {t t1 t2 t3 t4 tk : TE} {p q r s4 : P3} {e a b c : Px} {i j k : Nat} {v z : V} {C : Addr}
theorem ev_dif (hs : σ[i]? = some (some z)) (hr : RingAt C H z) (h1 : EvP σ H t1 p) (h2 : EvP σ H t2 q) (hk : EvI σ tk (k : Int)) (k2 : k < 2) (f : Fine (difX p q k)) : EvT σ H (tCall (spDif C) [] E0 (tCons (tVar i) (tCons t1 (tCons t2 (tCons tk tNil))))) (difX p q k) := fun G s Q go =>
  ⟨_, hs, h1 G s _ fun u F s1 tu => h2 F (s.trans s1) _ fun w F2 s2 tw => hk F2 _ ⟨z, u, w, p, q, k, rfl, (hr.up s).up (s1.trans s2), tu.up s2, tw, k2, f, fun x F3 s3 tx => go x F3 (s1.trans (s2.trans s3)) tx⟩⟩
theorem evp_m2 {f : P3 → P3 → P3} (hs : σ[i]? = some (some z)) (hr : RingAt C H z) (h1 : EvP σ H t1 p) (h2 : EvP σ H t2 q) (fi : Fine3 (f p q)) : EvP σ H (tCall (spM2 C f) [] E0 (tCons (tVar i) (tCons t1 (tCons t2 tNil)))) (f p q) := fun G s Q go =>
  ⟨_, hs, h1 G s _ fun u F s1 tu => h2 F (s.trans s1) _ fun w F2 s2 tw => ⟨z, u, w, p, q, rfl, (hr.up s).up (s1.trans s2), tu.up s2, tw, fi, fun x F3 s3 tx => go x F3 (s1.trans (s2.trans s3)) tx⟩⟩
theorem evp_m3 {f : P3 → P3 → P3 → P3} (hs : σ[i]? = some (some z)) (hr : RingAt C H z) (h1 : EvP σ H t1 p) (h2 : EvP σ H t2 q) (h3 : EvP σ H t3 r) (fi : Fine3 (f p q r)) : EvP σ H (tCall (spM3 C f) [] E0 (tCons (tVar i) (tCons t1 (tCons t2 (tCons t3 tNil))))) (f p q r) := fun G s Q go =>
  ⟨_, hs, h1 G s _ fun u F s1 tu => h2 F (s.trans s1) _ fun w F2 s2 tw => h3 F2 (s.trans (s1.trans s2)) _ fun y F3 s3 ty => ⟨z, u, w, y, p, q, r, rfl, (hr.up s).up (s1.trans (s2.trans s3)), tu.up (s2.trans s3), tw.up s3, ty, fi, fun x F4 s4 tx => go x F4 (s1.trans (s2.trans (s3.trans s4))) tx⟩⟩
theorem evp_m4 {f : P3 → P3 → P3 → P3 → P3} (hs : σ[i]? = some (some z)) (hr : RingAt C H z) (h1 : EvP σ H t1 p) (h2 : EvP σ H t2 q) (h3 : EvP σ H t3 r) (h4 : EvP σ H t4 s4) (fi : Fine3 (f p q r s4)) : EvP σ H (tCall (spM4 C f) [] E0 (tCons (tVar i) (tCons t1 (tCons t2 (tCons t3 (tCons t4 tNil)))))) (f p q r s4) := fun G s Q go =>
  ⟨_, hs, h1 G s _ fun u F s1 tu => h2 F (s.trans s1) _ fun w F2 s2 tw => h3 F2 (s.trans (s1.trans s2)) _ fun y F3 s3 ty => h4 F3 (s.trans (s1.trans (s2.trans s3))) _ fun y4 F4 s4' ty4 =>
    ⟨z, u, w, y, y4, p, q, r, s4, rfl, (hr.up s).up (s1.trans (s2.trans (s3.trans s4'))), tu.up (s2.trans (s3.trans s4')), tw.up (s3.trans s4'), ty.up s4', ty4, fi, fun x F5 s5 tx => go x F5 (s1.trans (s2.trans (s3.trans (s4'.trans s5)))) tx⟩⟩
theorem evp_part {n d : Int} {tn td : TE} (hs : σ[i]? = some (some z)) (hr : RingAt C H z) (h1 : EvP σ H t1 p) (h2 : EvP σ H t2 q) (hn : EvI σ tn n) (hd : EvI σ td d) (fi : Fine3 (partX p q n d)) : EvP σ H (tCall (spParted C) [] E0 (tCons (tVar i) (tCons t1 (tCons t2 (tCons tn (tCons td tNil)))))) (partX p q n d) := fun G s Q go =>
  ⟨_, hs, h1 G s _ fun u F s1 tu => h2 F (s.trans s1) _ fun w F2 s2 tw => hn F2 _ (hd F2 _ ⟨z, u, w, p, q, n, d, rfl, (hr.up s).up (s1.trans s2), tu.up s2, tw, fi, fun x F3 s3 tx => go x F3 (s1.trans (s2.trans s3)) tx⟩)⟩
theorem evp_moved (hs : σ[i]? = some (some z)) (hr : RingAt C H z) (h1 : EvP σ H t1 p) (h2 : EvT σ H t2 a) (h3 : EvT σ H t3 b) (h4 : EvT σ H t4 c) (fi : Fine3 (movedX p a b c)) : EvP σ H (tCall (spMoved C) [] E0 (tCons (tVar i) (tCons t1 (tCons t2 (tCons t3 (tCons t4 tNil)))))) (movedX p a b c) := fun G s Q go =>
  ⟨_, hs, h1 G s _ fun u F s1 tu => h2 F (s.trans s1) _ fun w F2 s2 tw => h3 F2 (s.trans (s1.trans s2)) _ fun y F3 s3 ty => h4 F3 (s.trans (s1.trans (s2.trans s3))) _ fun y4 F4 s4' ty4 =>
    ⟨z, u, w, y, y4, p, a, b, c, rfl, (hr.up s).up (s1.trans (s2.trans (s3.trans s4'))), tu.up (s2.trans (s3.trans s4')), tw.up (s3.trans s4'), ty.up s4', ty4, fi, fun x F5 s5 tx => go x F5 (s1.trans (s2.trans (s3.trans (s4'.trans s5)))) tx⟩⟩
/-- a returned point -/
theorem ret_p {D : Ends} (h : EvP σ H t p) (go : ∀ v G, Same H G → TripE G v p → D.rt v G) : tRet t D σ H := h H (Same.refl H) _ go
theorem ret_t {D : Ends} (h : EvT σ H t e) (go : ∀ v G, Same H G → TabE G v e → D.rt v G) : tRet t D σ H := h H (Same.refl H) _ go
end
section
variable {P : Program} {w : World} {K : PySem.W.Frag} {mg : Str → Option Value} {base : Heap} {C f0 f1 f2 f3 f4 fD fB fF fM fP fT fX fE : Addr} {d0 d1 d2 d3 d4 dD dB dF dM dP dT dX dE : FuncData}
theorem scDif : FnScope ["ring", "a", "b", "at"] ["ring", "a", "b", "at"] (defScope sDif) := ⟨rfl, rfl, rfl, by decide +kernel, rfl, by decide +kernel, by decide +kernel⟩
theorem scPlaced : FnScope ["ring", "x", "y"] ["ring", "x", "y"] (defScope sPlaced) := ⟨rfl, rfl, rfl, by decide +kernel, rfl, by decide +kernel, by decide +kernel⟩
theorem scSlid : FnScope ["ring", "a", "b", "t", "along", "at"] ["ring", "a", "b", "t"] (defScope sSlid) := ⟨rfl, rfl, rfl, by decide +kernel, rfl, by decide +kernel, by decide +kernel⟩
theorem scParted : FnScope ["ring", "a", "b", "n", "d", "along", "at"] ["ring", "a", "b", "n", "d"] (defScope sParted) := ⟨rfl, rfl, rfl, by decide +kernel, rfl, by decide +kernel, by decide +kernel⟩
theorem scMoved : FnScope ["ring", "q", "across", "up", "weight"] ["ring", "q", "across", "up", "weight"] (defScope sMoved) := ⟨rfl, rfl, rfl, by decide +kernel, rfl, by decide +kernel, by decide +kernel⟩
theorem scShifted : FnScope ["ring", "q", "a", "b", "ux", "uy"] ["ring", "q", "a", "b"] (defScope sShifted) := ⟨rfl, rfl, rfl, by decide +kernel, rfl, by decide +kernel, by decide +kernel⟩
theorem scTurned : FnScope ["ring", "q", "a", "b", "ux", "uy"] ["ring", "q", "a", "b"] (defScope sTurned) := ⟨rfl, rfl, rfl, by decide +kernel, rfl, by decide +kernel, by decide +kernel⟩
theorem scBeyond : FnScope ["ring", "q", "c", "across", "at"] ["ring", "q", "c"] (defScope sBeyond) := ⟨rfl, rfl, rfl, by decide +kernel, rfl, by decide +kernel, by decide +kernel⟩
theorem scFoot : FnScope ["ring", "q", "a", "b", "ux", "uy", "square", "along", "weight"] ["ring", "q", "a", "b"] (defScope sFoot) := ⟨rfl, rfl, rfl, by decide +kernel, rfl, by decide +kernel, by decide +kernel⟩
theorem scMirrored : FnScope ["ring", "q", "a", "b"] ["ring", "q", "a", "b"] (defScope sMirrored) := ⟨rfl, rfl, rfl, by decide +kernel, rfl, by decide +kernel, by decide +kernel⟩
theorem scSecond : FnScope ["ring", "a", "b", "o"] ["ring", "a", "b", "o"] (defScope sSecond) := ⟨rfl, rfl, rfl, by decide +kernel, rfl, by decide +kernel, by decide +kernel⟩
theorem scCrossed : FnScope ["ring", "one", "other"] ["ring", "one", "other"] (defScope sCrossed) := ⟨rfl, rfl, rfl, by decide +kernel, rfl, by decide +kernel, by decide +kernel⟩
theorem scMeet : FnScope ["ring", "a", "b", "c", "d"] ["ring", "a", "b", "c", "d"] (defScope sMeet) := ⟨rfl, rfl, rfl, by decide +kernel, rfl, by decide +kernel, by decide +kernel⟩
theorem scCentre : FnScope ["ring", "a", "b", "c", "m", "k"] ["ring", "a", "b", "c"] (defScope sCentre) := ⟨rfl, rfl, rfl, by decide +kernel, rfl, by decide +kernel, by decide +kernel⟩
theorem ok_dif {f : Addr} {fd : FuncData} (F : Fun K "difference" "difference" sDif f fd) (R : RingT P w K mg base C f0 f1 f2 f3 f4 d0 d1 d2 d3 d4) : FnOk P w K mg base CX0 5 f fd ["ring", "a", "b", "at"] (spDif C) := by
  refine F.ok scDif (fun vs H Q E h => ?_) (fun cdv A outer s H vs Q E hr h => ?_)
  · obtain ⟨z, u, v, a, b, k, rfl, _⟩ := h
    rfl
  · obtain ⟨z, u, v, a, b, k, rfl, ra, ta, tb, k2, fi, go⟩ := h
    refine ⟨_, (pss_one (ps_ret (pe_meth (pv 0) R.cl R.sub.m R.sub.ok (hr.mono (by decide)) R.sub.b .nil pass0 (pa_cons (pe_meth (pv 0) R.cl R.mul.m R.mul.ok (hr.mono (by decide)) R.mul.b .nil pass0 (pa_cons (pe_ix ix_tup (pv 2) (pv 3) (fun _ _ => rfl)) (pa_cons (pe_ix ix_tup (pv 1) pe_int (fun _ _ => rfl)) pa_nil))) (pa_cons (pe_meth (pv 0) R.cl R.mul.m R.mul.ok (hr.mono (by decide)) R.mul.b .nil pass0 (pa_cons (pe_ix ix_tup (pv 1) (pv 3) (fun _ _ => rfl)) (pa_cons (pe_ix ix_tup (pv 2) pe_int (fun _ _ => rfl)) pa_nil))) pa_nil))))), ?_⟩
    exact ret_t (ev_op (op := .sub) rfl ra rfl (ev_op (op := .mul) rfl ra rfl (ev_ix (by omega) (evp_var rfl tb) (evi_v rfl)) (ev_ix (k := 2) (by decide) (evp_var rfl ta) evi_c) fi.1) (ev_op (op := .mul) rfl ra rfl (ev_ix (by omega) (evp_var rfl ta) (evi_v rfl)) (ev_ix (k := 2) (by decide) (evp_var rfl tb) evi_c) fi.2.1) fi) go
theorem ok_placed {f : Addr} {fd : FuncData} (F : Fun K "placed" "placed" sPlaced f fd) (R : RingT P w K mg base C f0 f1 f2 f3 f4 d0 d1 d2 d3 d4) : FnOk P w K mg base CX0 5 f fd ["ring", "x", "y"] (spPlaced C) := by
  refine F.ok scPlaced (fun vs H Q E h => ?_) (fun cdv A outer s H vs Q E hr h => ?_)
  · obtain ⟨z, u, v, a, b, rfl, _⟩ := h
    rfl
  · obtain ⟨z, u, v, a, b, rfl, ra, ta, tb, go⟩ := h
    refine ⟨_, (pss_one (ps_ret (pe_tup (pa_cons (pv 1) (pa_cons (pv 2) (pa_cons (pe_meth (pv 0) R.cl R.num.m R.num.ok (hr.mono (by decide)) R.num.b .nil pass0 (pa_cons pe_int pa_nil)) pa_nil)))))), ?_⟩
    exact ret_p (p := placedX a b) (evp_tup (ev_var rfl ta) (ev_var rfl tb) (ev_num rfl ra rfl evi_c)) go
theorem ok_slid {f : Addr} {fd : FuncData} (F : Fun K "slid" "slid" sSlid f fd) (R : RingT P w K mg base C f0 f1 f2 f3 f4 d0 d1 d2 d3 d4) (U : CallT P w K mg base CX0 5 "difference" ["ring", "a", "b", "at"] (spDif C) fD dD) (rng : mg "range" = none) : FnOk P w K mg base CX0 6 f fd ["ring", "a", "b", "t"] (spSlid C) := by
  refine F.ok scSlid (fun vs H Q E h => ?_) (fun cdv A outer s H vs Q E hr h => ?_)
  · obtain ⟨z, u, v, t, a, b, e, rfl, _⟩ := h
    rfl
  · obtain ⟨z, u, v, t, a, b, e, rfl, ra, ta, tb, te, fi, go⟩ := h
    refine ⟨_, (pss_cons (ps_setLc (i := 4) (own := [("at", 5)]) (g := (gName 5)) (tt := tYes) (te := (tMeth C "plus" (spR2 .add) [] E0 (tVar 0) (tCons (tMeth C "times" (spR2 .mul) [] E0 (tVar 0) (tCons (tOp (rIxT K) (tVar 1) (tVar 5)) (tCons (tOp (rIxT K) (tVar 2) (tC (.int 2))) tNil))) (tCons (tMeth C "times" (spR2 .mul) [] E0 (tVar 0) (tCons (tVar 3) (tCons (tCall (spDif C) [] E0 (tCons (tVar 0) (tCons (tVar 1) (tCons (tVar 2) (tCons (tVar 5) tNil))))) tNil))) tNil)))) rfl scSlid.nd rfl rfl (sw_true rfl rfl rfl (by decide +kernel)) (pi_range1 (by rfl) rng (pa_cons pe_int pa_nil)) (blkOk_by (own := [("at", 5)]) (N := ["ring", "a", "b", "t", "along", "at"]) (sc := defScope sSlid) (by decide +kernel)) (fun _ _ _ _ _ => (pg_name (i := 5) scSlid.nd rfl (Or.inl rfl))) (fun _ _ _ _ _ => pts_nil) (fun _ _ _ _ _ => (pe_meth (pv 0) R.cl R.add.m R.add.ok (hr.mono (by decide)) R.add.b .nil pass0 (pa_cons (pe_meth (pv 0) R.cl R.mul.m R.mul.ok (hr.mono (by decide)) R.mul.b .nil pass0 (pa_cons (pe_ix ix_tup (pv 1) (pv 5) (fun _ _ => rfl)) (pa_cons (pe_ix ix_tup (pv 2) pe_int (fun _ _ => rfl)) pa_nil))) (pa_cons (pe_meth (pv 0) R.cl R.mul.m R.mul.ok (hr.mono (by decide)) R.mul.b .nil pass0 (pa_cons (pv 3) (pa_cons (pe_call U.ok (hr.mono (by decide)) rfl U.g U.k U.b .nil pass0 (pa_cons (pv 0) (pa_cons (pv 1) (pa_cons (pv 2) (pa_cons (pv 5) pa_nil))))) pa_nil))) pa_nil)))))
      (pss_one (ps_ret (pe_tup (pa_cons (pe_ix ix_list (pv 4) pe_int (fun _ _ => rfl)) (pa_cons (pe_ix ix_list (pv 4) pe_int (fun _ _ => rfl)) (pa_cons (pe_meth (pv 0) R.cl R.mul.m R.mul.ok (hr.mono (by decide)) R.mul.b .nil pass0 (pa_cons (pe_ix ix_tup (pv 1) pe_int (fun _ _ => rfl)) (pa_cons (pe_ix ix_tup (pv 2) pe_int (fun _ _ => rfl)) pa_nil))) pa_nil))))))), ?_⟩
    have fx := fi.x
    have fy := fi.y
    refine st_two (f := fun k => .add (.mul (a.at k) b.w) (.mul e (difX a b k))) (fun _ => rfl) (fun k k2 => ?_) (fun l G u0 u1 s1 hl t0 t1 => ?_)
    · have ff : Fine (.add (.mul (a.at k) b.w) (.mul e (difX a b k))) := match k, k2 with | 0, _ => fx | 1, _ => fy
      exact ev_op (op := .add) rfl ra rfl (ev_op (op := .mul) rfl ra rfl (ev_ix (by omega) (evp_var rfl ta) (evi_v rfl)) (ev_ix (k := 2) (by decide) (evp_var rfl tb) evi_c) ff.1) (ev_op (op := .mul) rfl ra rfl (ev_var rfl te) (ev_dif rfl ra (evp_var rfl ta) (evp_var rfl tb) (evi_v rfl) k2 ff.2.1.2.1) ff.2.1) ff
    · exact ret_p (p := slidX a b e) (evp_tup (ev_lix (k := 0) rfl hl rfl t0) (ev_lix (k := 1) rfl hl rfl t1) (ev_op (op := .mul) rfl (ra.up s1) rfl (ev_ix (k := 2) (by decide) (evp_var rfl (ta.up s1)) evi_c) (ev_ix (k := 2) (by decide) (evp_var rfl (tb.up s1)) evi_c) fi.w)) fun x F s2 tx => go x F (s1.trans s2) tx
theorem ok_parted {f : Addr} {fd : FuncData} (F : Fun K "parted" "parted" sParted f fd) (R : RingT P w K mg base C f0 f1 f2 f3 f4 d0 d1 d2 d3 d4) (U : CallT P w K mg base CX0 5 "difference" ["ring", "a", "b", "at"] (spDif C) fD dD) (rng : mg "range" = none) : FnOk P w K mg base CX0 6 f fd ["ring", "a", "b", "n", "d"] (spParted C) := by
  refine F.ok scParted (fun vs H Q E h => ?_) (fun cdv A outer s H vs Q E hr h => ?_)
  · obtain ⟨z, u, v, a, b, n, d, rfl, _⟩ := h
    rfl
  · obtain ⟨z, u, v, a, b, n, d, rfl, ra, ta, tb, fi, go⟩ := h
    refine ⟨_, (pss_cons (ps_setLc (i := 5) (own := [("at", 6)]) (g := (gName 6)) (tt := tYes) (te := (tMeth C "plus" (spR2 .add) [] E0 (tVar 0) (tCons (tMeth C "scaled" spRS [] E0 (tVar 0) (tCons (tMeth C "times" (spR2 .mul) [] E0 (tVar 0) (tCons (tOp (rIxT K) (tVar 1) (tVar 6)) (tCons (tOp (rIxT K) (tVar 2) (tC (.int 2))) tNil))) (tCons (tVar 4) tNil))) (tCons (tMeth C "scaled" spRS [] E0 (tVar 0) (tCons (tCall (spDif C) [] E0 (tCons (tVar 0) (tCons (tVar 1) (tCons (tVar 2) (tCons (tVar 6) tNil))))) (tCons (tVar 3) tNil))) tNil)))) rfl scParted.nd rfl rfl (sw_true rfl rfl rfl (by decide +kernel)) (pi_range1 (by rfl) rng (pa_cons pe_int pa_nil)) (blkOk_by (own := [("at", 6)]) (N := ["ring", "a", "b", "n", "d", "along", "at"]) (sc := defScope sParted) (by decide +kernel)) (fun _ _ _ _ _ => (pg_name (i := 6) scParted.nd rfl (Or.inl rfl))) (fun _ _ _ _ _ => pts_nil) (fun _ _ _ _ _ => (pe_meth (pv 0) R.cl R.add.m R.add.ok (hr.mono (by decide)) R.add.b .nil pass0 (pa_cons (pe_meth (pv 0) R.cl R.scl.m R.scl.ok (hr.mono (by decide)) R.scl.b .nil pass0 (pa_cons (pe_meth (pv 0) R.cl R.mul.m R.mul.ok (hr.mono (by decide)) R.mul.b .nil pass0 (pa_cons (pe_ix ix_tup (pv 1) (pv 6) (fun _ _ => rfl)) (pa_cons (pe_ix ix_tup (pv 2) pe_int (fun _ _ => rfl)) pa_nil))) (pa_cons (pv 4) pa_nil))) (pa_cons (pe_meth (pv 0) R.cl R.scl.m R.scl.ok (hr.mono (by decide)) R.scl.b .nil pass0 (pa_cons (pe_call U.ok (hr.mono (by decide)) rfl U.g U.k U.b .nil pass0 (pa_cons (pv 0) (pa_cons (pv 1) (pa_cons (pv 2) (pa_cons (pv 6) pa_nil))))) (pa_cons (pv 3) pa_nil))) pa_nil)))))
      (pss_one (ps_ret (pe_tup (pa_cons (pe_ix ix_list (pv 5) pe_int (fun _ _ => rfl)) (pa_cons (pe_ix ix_list (pv 5) pe_int (fun _ _ => rfl)) (pa_cons (pe_meth (pv 0) R.cl R.scl.m R.scl.ok (hr.mono (by decide)) R.scl.b .nil pass0 (pa_cons (pe_meth (pv 0) R.cl R.mul.m R.mul.ok (hr.mono (by decide)) R.mul.b .nil pass0 (pa_cons (pe_ix ix_tup (pv 1) pe_int (fun _ _ => rfl)) (pa_cons (pe_ix ix_tup (pv 2) pe_int (fun _ _ => rfl)) pa_nil))) (pa_cons (pv 4) pa_nil))) pa_nil))))))), ?_⟩
    have fx := fi.x
    have fy := fi.y
    refine st_two (f := fun k => .add (.scl (.mul (a.at k) b.w) d) (.scl (difX a b k) n)) (fun _ => rfl) (fun k k2 => ?_) (fun l G u0 u1 s1 hl t0 t1 => ?_)
    · have ff : Fine (.add (.scl (.mul (a.at k) b.w) d) (.scl (difX a b k) n)) := match k, k2 with | 0, _ => fx | 1, _ => fy
      exact ev_op (op := .add) rfl ra rfl (ev_scl rfl ra rfl (ev_op (op := .mul) rfl ra rfl (ev_ix (by omega) (evp_var rfl ta) (evi_v rfl)) (ev_ix (k := 2) (by decide) (evp_var rfl tb) evi_c) ff.1.1) (evi_v rfl) ff.1) (ev_scl rfl ra rfl (ev_dif rfl ra (evp_var rfl ta) (evp_var rfl tb) (evi_v rfl) k2 ff.2.1.1) (evi_v rfl) ff.2.1) ff
    · exact ret_p (p := partX a b n d) (evp_tup (ev_lix (k := 0) rfl hl rfl t0) (ev_lix (k := 1) rfl hl rfl t1) (ev_scl rfl (ra.up s1) rfl (ev_op (op := .mul) rfl (ra.up s1) rfl (ev_ix (k := 2) (by decide) (evp_var rfl (ta.up s1)) evi_c) (ev_ix (k := 2) (by decide) (evp_var rfl (tb.up s1)) evi_c) fi.w.1) (evi_v rfl) fi.w)) fun x F s2 tx => go x F (s1.trans s2) tx
theorem ok_moved {f : Addr} {fd : FuncData} (F : Fun K "_moved" "_moved" sMoved f fd) (R : RingT P w K mg base C f0 f1 f2 f3 f4 d0 d1 d2 d3 d4) : FnOk P w K mg base CX0 5 f fd ["ring", "q", "across", "up", "weight"] (spMoved C) := by
  refine F.ok scMoved (fun vs H Q E h => ?_) (fun cdv A outer s H vs Q E hr h => ?_)
  · obtain ⟨z, u, e1, e2, e3, q, a, b, c, rfl, _⟩ := h
    rfl
  · obtain ⟨z, u, e1, e2, e3, q, a, b, c, rfl, ra, tq, ta, tb, tc, fi, go⟩ := h
    refine ⟨_, (pss_one (ps_ret (pe_tup (pa_cons (pe_meth (pv 0) R.cl R.add.m R.add.ok (hr.mono (by decide)) R.add.b .nil pass0 (pa_cons (pe_meth (pv 0) R.cl R.mul.m R.mul.ok (hr.mono (by decide)) R.mul.b .nil pass0 (pa_cons (pe_ix ix_tup (pv 1) pe_int (fun _ _ => rfl)) (pa_cons (pv 4) pa_nil))) (pa_cons (pe_meth (pv 0) R.cl R.mul.m R.mul.ok (hr.mono (by decide)) R.mul.b .nil pass0 (pa_cons (pe_ix ix_tup (pv 1) pe_int (fun _ _ => rfl)) (pa_cons (pv 2) pa_nil))) pa_nil))) (pa_cons (pe_meth (pv 0) R.cl R.add.m R.add.ok (hr.mono (by decide)) R.add.b .nil pass0 (pa_cons (pe_meth (pv 0) R.cl R.mul.m R.mul.ok (hr.mono (by decide)) R.mul.b .nil pass0 (pa_cons (pe_ix ix_tup (pv 1) pe_int (fun _ _ => rfl)) (pa_cons (pv 4) pa_nil))) (pa_cons (pe_meth (pv 0) R.cl R.mul.m R.mul.ok (hr.mono (by decide)) R.mul.b .nil pass0 (pa_cons (pe_ix ix_tup (pv 1) pe_int (fun _ _ => rfl)) (pa_cons (pv 3) pa_nil))) pa_nil))) (pa_cons (pe_meth (pv 0) R.cl R.mul.m R.mul.ok (hr.mono (by decide)) R.mul.b .nil pass0 (pa_cons (pe_ix ix_tup (pv 1) pe_int (fun _ _ => rfl)) (pa_cons (pv 4) pa_nil))) pa_nil)))))), ?_⟩
    have fx := fi.x
    have fy := fi.y
    have q0 := ev_ix (K := K) (k := 0) (by decide) (evp_var (σ := start ["ring", "q", "across", "up", "weight"] [z, u, e1, e2, e3]) (i := 1) rfl tq) (evi_c (k := ((0 : Nat) : Int)))
    have q1 := ev_ix (K := K) (k := 1) (by decide) (evp_var (σ := start ["ring", "q", "across", "up", "weight"] [z, u, e1, e2, e3]) (i := 1) rfl tq) (evi_c (k := ((1 : Nat) : Int)))
    have q2 := ev_ix (K := K) (k := 2) (by decide) (evp_var (σ := start ["ring", "q", "across", "up", "weight"] [z, u, e1, e2, e3]) (i := 1) rfl tq) (evi_c (k := ((2 : Nat) : Int)))
    exact ret_p (p := movedX q a b c) (evp_tup (ev_op (op := .add) rfl ra rfl (ev_op (op := .mul) rfl ra rfl q0 (ev_var rfl tc) fx.1) (ev_op (op := .mul) rfl ra rfl q2 (ev_var rfl ta) fx.2.1) fx) (ev_op (op := .add) rfl ra rfl (ev_op (op := .mul) rfl ra rfl q1 (ev_var rfl tc) fy.1) (ev_op (op := .mul) rfl ra rfl q2 (ev_var rfl tb) fy.2.1) fy) (ev_op (op := .mul) rfl ra rfl q2 (ev_var rfl tc) fi.w)) go
theorem ok_shifted {f : Addr} {fd : FuncData} (F : Fun K "shifted" "shifted" sShifted f fd) (R : RingT P w K mg base C f0 f1 f2 f3 f4 d0 d1 d2 d3 d4) (U : CallT P w K mg base CX0 5 "difference" ["ring", "a", "b", "at"] (spDif C) fD dD) (M : CallT P w K mg base CX0 5 "_moved" ["ring", "q", "across", "up", "weight"] (spMoved C) fM dM) : FnOk P w K mg base CX0 6 f fd ["ring", "q", "a", "b"] (spM3 C shiftX) := by
  refine F.ok scShifted (fun vs H Q E h => ?_) (fun cdv A outer s H vs Q E hr h => ?_)
  · obtain ⟨z, u, v, t, q, a, b, rfl, _⟩ := h
    rfl
  · obtain ⟨z, u, v, t, q, a, b, rfl, ra, tq, ta, tb, fi, go⟩ := h
    refine ⟨_, (pss_cons (ps_set (i := 4) scShifted.nd rfl (Or.inl rfl) (pe_call U.ok (hr.mono (by decide)) rfl U.g U.k U.b .nil pass0 (pa_cons (pv 0) (pa_cons (pv 2) (pa_cons (pv 3) (pa_cons pe_int pa_nil))))))
      (pss_cons (ps_set (i := 5) scShifted.nd rfl (Or.inl rfl) (pe_call U.ok (hr.mono (by decide)) rfl U.g U.k U.b .nil pass0 (pa_cons (pv 0) (pa_cons (pv 2) (pa_cons (pv 3) (pa_cons pe_int pa_nil))))))
      (pss_one (ps_ret (pe_call M.ok (hr.mono (by decide)) rfl M.g M.k M.b .nil pass0 (pa_cons (pv 0) (pa_cons (pv 1) (pa_cons (pv 4) (pa_cons (pv 5) (pa_cons (pe_meth (pv 0) R.cl R.mul.m R.mul.ok (hr.mono (by decide)) R.mul.b .nil pass0 (pa_cons (pe_ix ix_tup (pv 2) pe_int (fun _ _ => rfl)) (pa_cons (pe_ix ix_tup (pv 3) pe_int (fun _ _ => rfl)) pa_nil))) pa_nil)))))))))), ?_⟩
    have fx : Fine (difX a b 0) := fi.x.2.1.2.1
    have fy : Fine (difX a b 1) := fi.y.2.1.2.1
    refine st_asg (ev_dif (k := 0) rfl ra (evp_var rfl ta) (evp_var rfl tb) evi_c (by decide) fx) (fun ux G1 s1 t1 => ?_)
    refine st_asg (ev_dif (k := 1) rfl (ra.up s1) (evp_var rfl (ta.up s1)) (evp_var rfl (tb.up s1)) evi_c (by decide) fy) (fun uy G2 s2 t2 => ?_)
    have s12 := s1.trans s2
    exact ret_p (p := shiftX q a b) (evp_moved rfl (ra.up s12) (evp_var rfl (tq.up s12)) (ev_var rfl (t1.up s2)) (ev_var rfl t2) (ev_op (op := .mul) rfl (ra.up s12) rfl (ev_ix (k := 2) (by decide) (evp_var rfl (ta.up s12)) evi_c) (ev_ix (k := 2) (by decide) (evp_var rfl (tb.up s12)) evi_c) fi.w.2.1) fi) fun x F s3 tx => go x F (s12.trans s3) tx
theorem ok_turned {f : Addr} {fd : FuncData} (F : Fun K "turned" "turned" sTurned f fd) (R : RingT P w K mg base C f0 f1 f2 f3 f4 d0 d1 d2 d3 d4) (U : CallT P w K mg base CX0 5 "difference" ["ring", "a", "b", "at"] (spDif C) fD dD) (M : CallT P w K mg base CX0 5 "_moved" ["ring", "q", "across", "up", "weight"] (spMoved C) fM dM) : FnOk P w K mg base CX0 6 f fd ["ring", "q", "a", "b"] (spM3 C turnX) := by
  refine F.ok scTurned (fun vs H Q E h => ?_) (fun cdv A outer s H vs Q E hr h => ?_)
  · obtain ⟨z, u, v, t, q, a, b, rfl, _⟩ := h
    rfl
  · obtain ⟨z, u, v, t, q, a, b, rfl, ra, tq, ta, tb, fi, go⟩ := h
    refine ⟨_, (pss_cons (ps_set (i := 4) scTurned.nd rfl (Or.inl rfl) (pe_call U.ok (hr.mono (by decide)) rfl U.g U.k U.b .nil pass0 (pa_cons (pv 0) (pa_cons (pv 2) (pa_cons (pv 3) (pa_cons pe_int pa_nil))))))
      (pss_cons (ps_set (i := 5) scTurned.nd rfl (Or.inl rfl) (pe_call U.ok (hr.mono (by decide)) rfl U.g U.k U.b .nil pass0 (pa_cons (pv 0) (pa_cons (pv 2) (pa_cons (pv 3) (pa_cons pe_int pa_nil))))))
      (pss_one (ps_ret (pe_call M.ok (hr.mono (by decide)) rfl M.g M.k M.b .nil pass0 (pa_cons (pv 0) (pa_cons (pv 1) (pa_cons (pe_meth (pv 0) R.cl R.scl.m R.scl.ok (hr.mono (by decide)) R.scl.b .nil pass0 (pa_cons (pv 5) (pa_cons (pe_un un_neg pe_int) pa_nil))) (pa_cons (pv 4) (pa_cons (pe_meth (pv 0) R.cl R.mul.m R.mul.ok (hr.mono (by decide)) R.mul.b .nil pass0 (pa_cons (pe_ix ix_tup (pv 2) pe_int (fun _ _ => rfl)) (pa_cons (pe_ix ix_tup (pv 3) pe_int (fun _ _ => rfl)) pa_nil))) pa_nil)))))))))), ?_⟩
    have fs : Fine (.scl (difX a b 1) (-1)) := fi.x.2.1.2.1
    have fx : Fine (difX a b 0) := fi.y.2.1.2.1
    refine st_asg (ev_dif (k := 0) rfl ra (evp_var rfl ta) (evp_var rfl tb) evi_c (by decide) fx) (fun ux G1 s1 t1 => ?_)
    refine st_asg (ev_dif (k := 1) rfl (ra.up s1) (evp_var rfl (ta.up s1)) (evp_var rfl (tb.up s1)) evi_c (by decide) fs.1) (fun uy G2 s2 t2 => ?_)
    have s12 := s1.trans s2
    exact ret_p (p := turnX q a b) (evp_moved rfl (ra.up s12) (evp_var rfl (tq.up s12)) (ev_scl rfl (ra.up s12) rfl (ev_var rfl t2) (evi_neg evi_c) fs) (ev_var rfl (t1.up s2)) (ev_op (op := .mul) rfl (ra.up s12) rfl (ev_ix (k := 2) (by decide) (evp_var rfl (ta.up s12)) evi_c) (ev_ix (k := 2) (by decide) (evp_var rfl (tb.up s12)) evi_c) fi.w.2.1) fi) fun x F s3 tx => go x F (s12.trans s3) tx
theorem ok_beyond {f : Addr} {fd : FuncData} (F : Fun K "beyond" "beyond" sBeyond f fd) (R : RingT P w K mg base C f0 f1 f2 f3 f4 d0 d1 d2 d3 d4) (rng : mg "range" = none) : FnOk P w K mg base CX0 5 f fd ["ring", "q", "c"] (spM2 C overX) := by
  refine F.ok scBeyond (fun vs H Q E h => ?_) (fun cdv A outer s H vs Q E hr h => ?_)
  · obtain ⟨z, u, v, a, b, rfl, _⟩ := h
    rfl
  · obtain ⟨z, u, v, q, c, rfl, ra, tq, tc, fi, go⟩ := h
    refine ⟨_, (pss_cons (ps_setLc (i := 3) (own := [("at", 4)]) (g := (gName 4)) (tt := tYes) (te := (tMeth C "minus" (spR2 .sub) [] E0 (tVar 0) (tCons (tMeth C "scaled" spRS [] E0 (tVar 0) (tCons (tMeth C "times" (spR2 .mul) [] E0 (tVar 0) (tCons (tOp (rIxT K) (tVar 2) (tVar 4)) (tCons (tOp (rIxT K) (tVar 1) (tC (.int 2))) tNil))) (tCons (tC (.int 2)) tNil))) (tCons (tMeth C "times" (spR2 .mul) [] E0 (tVar 0) (tCons (tOp (rIxT K) (tVar 1) (tVar 4)) (tCons (tOp (rIxT K) (tVar 2) (tC (.int 2))) tNil))) tNil)))) rfl scBeyond.nd rfl rfl (sw_true rfl rfl rfl (by decide +kernel)) (pi_range1 (by rfl) rng (pa_cons pe_int pa_nil)) (blkOk_by (own := [("at", 4)]) (N := ["ring", "q", "c", "across", "at"]) (sc := defScope sBeyond) (by decide +kernel)) (fun _ _ _ _ _ => (pg_name (i := 4) scBeyond.nd rfl (Or.inl rfl))) (fun _ _ _ _ _ => pts_nil) (fun _ _ _ _ _ => (pe_meth (pv 0) R.cl R.sub.m R.sub.ok (hr.mono (by decide)) R.sub.b .nil pass0 (pa_cons (pe_meth (pv 0) R.cl R.scl.m R.scl.ok (hr.mono (by decide)) R.scl.b .nil pass0 (pa_cons (pe_meth (pv 0) R.cl R.mul.m R.mul.ok (hr.mono (by decide)) R.mul.b .nil pass0 (pa_cons (pe_ix ix_tup (pv 2) (pv 4) (fun _ _ => rfl)) (pa_cons (pe_ix ix_tup (pv 1) pe_int (fun _ _ => rfl)) pa_nil))) (pa_cons pe_int pa_nil))) (pa_cons (pe_meth (pv 0) R.cl R.mul.m R.mul.ok (hr.mono (by decide)) R.mul.b .nil pass0 (pa_cons (pe_ix ix_tup (pv 1) (pv 4) (fun _ _ => rfl)) (pa_cons (pe_ix ix_tup (pv 2) pe_int (fun _ _ => rfl)) pa_nil))) pa_nil)))))
      (pss_one (ps_ret (pe_tup (pa_cons (pe_ix ix_list (pv 3) pe_int (fun _ _ => rfl)) (pa_cons (pe_ix ix_list (pv 3) pe_int (fun _ _ => rfl)) (pa_cons (pe_meth (pv 0) R.cl R.mul.m R.mul.ok (hr.mono (by decide)) R.mul.b .nil pass0 (pa_cons (pe_ix ix_tup (pv 2) pe_int (fun _ _ => rfl)) (pa_cons (pe_ix ix_tup (pv 1) pe_int (fun _ _ => rfl)) pa_nil))) pa_nil))))))), ?_⟩
    have fx := fi.x
    have fy := fi.y
    refine st_two (f := fun k => .sub (.scl (.mul (c.at k) q.w) 2) (.mul (q.at k) c.w)) (fun _ => rfl) (fun k k2 => ?_) (fun l G u0 u1 s1 hl t0 t1 => ?_)
    · have ff : Fine (.sub (.scl (.mul (c.at k) q.w) 2) (.mul (q.at k) c.w)) := match k, k2 with | 0, _ => fx | 1, _ => fy
      exact ev_op (op := .sub) rfl ra rfl (ev_scl rfl ra rfl (ev_op (op := .mul) rfl ra rfl (ev_ix (by omega) (evp_var rfl tc) (evi_v rfl)) (ev_ix (k := 2) (by decide) (evp_var rfl tq) evi_c) ff.1.1) evi_c ff.1) (ev_op (op := .mul) rfl ra rfl (ev_ix (by omega) (evp_var rfl tq) (evi_v rfl)) (ev_ix (k := 2) (by decide) (evp_var rfl tc) evi_c) ff.2.1) ff
    · exact ret_p (p := overX q c) (evp_tup (ev_lix (k := 0) rfl hl rfl t0) (ev_lix (k := 1) rfl hl rfl t1) (ev_op (op := .mul) rfl (ra.up s1) rfl (ev_ix (k := 2) (by decide) (evp_var rfl (tc.up s1)) evi_c) (ev_ix (k := 2) (by decide) (evp_var rfl (tq.up s1)) evi_c) fi.w)) fun x F s2 tx => go x F (s1.trans s2) tx
theorem ok_foot {f : Addr} {fd : FuncData} (F : Fun K "foot" "foot" sFoot f fd) (R : RingT P w K mg base C f0 f1 f2 f3 f4 d0 d1 d2 d3 d4) (U : CallT P w K mg base CX0 5 "difference" ["ring", "a", "b", "at"] (spDif C) fD dD) : FnOk P w K mg base CX0 6 f fd ["ring", "q", "a", "b"] (spM3 C footX) := by
  refine F.ok scFoot (fun vs H Q E h => ?_) (fun cdv A outer s H vs Q E hr h => ?_)
  · obtain ⟨z, u, v, t, q, a, b, rfl, _⟩ := h
    rfl
  · obtain ⟨z, u, v, t, q, a, b, rfl, ra, tq, ta, tb, fi, go⟩ := h
    refine ⟨_, (pss_cons (ps_set (i := 4) scFoot.nd rfl (Or.inl rfl) (pe_call U.ok (hr.mono (by decide)) rfl U.g U.k U.b .nil pass0 (pa_cons (pv 0) (pa_cons (pv 2) (pa_cons (pv 3) (pa_cons pe_int pa_nil))))))
      (pss_cons (ps_set (i := 5) scFoot.nd rfl (Or.inl rfl) (pe_call U.ok (hr.mono (by decide)) rfl U.g U.k U.b .nil pass0 (pa_cons (pv 0) (pa_cons (pv 2) (pa_cons (pv 3) (pa_cons pe_int pa_nil))))))
      (pss_cons (ps_set (i := 6) scFoot.nd rfl (Or.inl rfl) (pe_meth (pv 0) R.cl R.add.m R.add.ok (hr.mono (by decide)) R.add.b .nil pass0 (pa_cons (pe_meth (pv 0) R.cl R.mul.m R.mul.ok (hr.mono (by decide)) R.mul.b .nil pass0 (pa_cons (pv 4) (pa_cons (pv 4) pa_nil))) (pa_cons (pe_meth (pv 0) R.cl R.mul.m R.mul.ok (hr.mono (by decide)) R.mul.b .nil pass0 (pa_cons (pv 5) (pa_cons (pv 5) pa_nil))) pa_nil))))
      (pss_cons (ps_set (i := 7) scFoot.nd rfl (Or.inl rfl) (pe_meth (pv 0) R.cl R.add.m R.add.ok (hr.mono (by decide)) R.add.b .nil pass0 (pa_cons (pe_meth (pv 0) R.cl R.mul.m R.mul.ok (hr.mono (by decide)) R.mul.b .nil pass0 (pa_cons (pe_call U.ok (hr.mono (by decide)) rfl U.g U.k U.b .nil pass0 (pa_cons (pv 0) (pa_cons (pv 2) (pa_cons (pv 1) (pa_cons pe_int pa_nil))))) (pa_cons (pv 4) pa_nil))) (pa_cons (pe_meth (pv 0) R.cl R.mul.m R.mul.ok (hr.mono (by decide)) R.mul.b .nil pass0 (pa_cons (pe_call U.ok (hr.mono (by decide)) rfl U.g U.k U.b .nil pass0 (pa_cons (pv 0) (pa_cons (pv 2) (pa_cons (pv 1) (pa_cons pe_int pa_nil))))) (pa_cons (pv 5) pa_nil))) pa_nil))))
      (pss_cons (ps_set (i := 8) scFoot.nd rfl (Or.inl rfl) (pe_meth (pv 0) R.cl R.mul.m R.mul.ok (hr.mono (by decide)) R.mul.b .nil pass0 (pa_cons (pe_ix ix_tup (pv 1) pe_int (fun _ _ => rfl)) (pa_cons (pv 6) pa_nil))))
      (pss_one (ps_ret (pe_tup (pa_cons (pe_meth (pv 0) R.cl R.add.m R.add.ok (hr.mono (by decide)) R.add.b .nil pass0 (pa_cons (pe_meth (pv 0) R.cl R.mul.m R.mul.ok (hr.mono (by decide)) R.mul.b .nil pass0 (pa_cons (pe_ix ix_tup (pv 2) pe_int (fun _ _ => rfl)) (pa_cons (pv 8) pa_nil))) (pa_cons (pe_meth (pv 0) R.cl R.mul.m R.mul.ok (hr.mono (by decide)) R.mul.b .nil pass0 (pa_cons (pv 7) (pa_cons (pv 4) pa_nil))) pa_nil))) (pa_cons (pe_meth (pv 0) R.cl R.add.m R.add.ok (hr.mono (by decide)) R.add.b .nil pass0 (pa_cons (pe_meth (pv 0) R.cl R.mul.m R.mul.ok (hr.mono (by decide)) R.mul.b .nil pass0 (pa_cons (pe_ix ix_tup (pv 2) pe_int (fun _ _ => rfl)) (pa_cons (pv 8) pa_nil))) (pa_cons (pe_meth (pv 0) R.cl R.mul.m R.mul.ok (hr.mono (by decide)) R.mul.b .nil pass0 (pa_cons (pv 7) (pa_cons (pv 5) pa_nil))) pa_nil))) (pa_cons (pe_meth (pv 0) R.cl R.mul.m R.mul.ok (hr.mono (by decide)) R.mul.b .nil pass0 (pa_cons (pe_ix ix_tup (pv 2) pe_int (fun _ _ => rfl)) (pa_cons (pv 8) pa_nil))) pa_nil))))))))))), ?_⟩
    have fw : Fine (.mul q.w (squareX a b)) := fi.w.2.1
    have fs : Fine (squareX a b) := fw.2.1
    have fl : Fine (alongX q a b) := fi.x.2.1.1
    have fx : Fine (difX a b 0) := fi.x.2.1.2.1
    have fy : Fine (difX a b 1) := fi.y.2.1.2.1
    refine st_asg (ev_dif (k := 0) rfl ra (evp_var rfl ta) (evp_var rfl tb) evi_c (by decide) fx) (fun ux G1 s1 t1 => ?_)
    refine st_asg (ev_dif (k := 1) rfl (ra.up s1) (evp_var rfl (ta.up s1)) (evp_var rfl (tb.up s1)) evi_c (by decide) fy) (fun uy G2 s2 t2 => ?_)
    have s12 := s1.trans s2
    have t1 := t1.up s2
    have ra2 := ra.up s12
    refine st_asg (e := squareX a b) (ev_op (op := .add) rfl ra2 rfl (ev_op (op := .mul) rfl ra2 rfl (ev_var rfl t1) (ev_var rfl t1) fs.1) (ev_op (op := .mul) rfl ra2 rfl (ev_var rfl t2) (ev_var rfl t2) fs.2.1) fs) (fun sq G3 s3 t3 => ?_)
    have s13 := s12.trans s3
    have ra3 := ra.up s13
    refine st_asg (e := alongX q a b) (ev_op (op := .add) rfl ra3 rfl (ev_op (op := .mul) rfl ra3 rfl (ev_dif (k := 0) rfl ra3 (evp_var rfl (ta.up s13)) (evp_var rfl (tq.up s13)) evi_c (by decide) fl.1.1) (ev_var rfl (t1.up s3)) fl.1) (ev_op (op := .mul) rfl ra3 rfl (ev_dif (k := 1) rfl ra3 (evp_var rfl (ta.up s13)) (evp_var rfl (tq.up s13)) evi_c (by decide) fl.2.1.1) (ev_var rfl (t2.up s3)) fl.2.1) fl) (fun al G4 s4 t4 => ?_)
    have s14 := s13.trans s4
    have ra4 := ra.up s14
    refine st_asg (e := .mul q.w (squareX a b)) (ev_op (op := .mul) rfl ra4 rfl (ev_ix (k := 2) (by decide) (evp_var rfl (tq.up s14)) evi_c) (ev_var rfl (t3.up s4)) fw) (fun wt G5 s5 t5 => ?_)
    have s15 := s14.trans s5
    have ra5 := ra.up s15
    have ta5 := ta.up s15
    have t45 := t4.up s5
    have s35 := s3.trans (s4.trans s5)
    exact ret_p (p := footX q a b) (evp_tup (ev_op (op := .add) rfl ra5 rfl (ev_op (op := .mul) rfl ra5 rfl (ev_ix (k := 0) (by decide) (evp_var rfl ta5) evi_c) (ev_var rfl t5) fi.x.1) (ev_op (op := .mul) rfl ra5 rfl (ev_var rfl t45) (ev_var rfl (t1.up s35)) fi.x.2.1) fi.x) (ev_op (op := .add) rfl ra5 rfl (ev_op (op := .mul) rfl ra5 rfl (ev_ix (k := 1) (by decide) (evp_var rfl ta5) evi_c) (ev_var rfl t5) fi.y.1) (ev_op (op := .mul) rfl ra5 rfl (ev_var rfl t45) (ev_var rfl (t2.up s35)) fi.y.2.1) fi.y) (ev_op (op := .mul) rfl ra5 rfl (ev_ix (k := 2) (by decide) (evp_var rfl ta5) evi_c) (ev_var rfl t5) fi.w)) fun x F s6 tx => go x F (s15.trans s6) tx
theorem ok_mirrored {f : Addr} {fd : FuncData} (F : Fun K "mirrored" "mirrored" sMirrored f fd) (B : CallT P w K mg base CX0 5 "beyond" ["ring", "q", "c"] (spM2 C overX) fB dB) (T : CallT P w K mg base CX0 6 "foot" ["ring", "q", "a", "b"] (spM3 C footX) fF dF) : FnOk P w K mg base CX0 7 f fd ["ring", "q", "a", "b"] (spM3 C mirrorX) := by
  refine F.ok scMirrored (fun vs H Q E h => ?_) (fun cdv A outer s H vs Q E hr h => ?_)
  · obtain ⟨z, u, v, t, q, a, b, rfl, _⟩ := h
    rfl
  · obtain ⟨z, u, v, t, q, a, b, rfl, ra, tq, ta, tb, fi, go⟩ := h
    refine ⟨_, (pss_one (ps_ret (pe_call B.ok (hr.mono (by decide)) rfl B.g B.k B.b .nil pass0 (pa_cons (pv 0) (pa_cons (pv 1) (pa_cons (pe_call T.ok (hr.mono (by decide)) rfl T.g T.k T.b .nil pass0 (pa_cons (pv 0) (pa_cons (pv 1) (pa_cons (pv 2) (pa_cons (pv 3) pa_nil))))) pa_nil)))))), ?_⟩
    exact ret_p (p := mirrorX q a b) (evp_m2 rfl ra (evp_var rfl tq) (evp_m3 rfl ra (evp_var rfl tq) (evp_var rfl ta) (evp_var rfl tb) (fine_over fi).2) fi) go
theorem ok_second {f : Addr} {fd : FuncData} (F : Fun K "second" "second" sSecond f fd) (B : CallT P w K mg base CX0 5 "beyond" ["ring", "q", "c"] (spM2 C overX) fB dB) (T : CallT P w K mg base CX0 6 "foot" ["ring", "q", "a", "b"] (spM3 C footX) fF dF) : FnOk P w K mg base CX0 7 f fd ["ring", "a", "b", "o"] (spM3 C secondX) := by
  refine F.ok scSecond (fun vs H Q E h => ?_) (fun cdv A outer s H vs Q E hr h => ?_)
  · obtain ⟨z, u, v, t, q, a, b, rfl, _⟩ := h
    rfl
  · obtain ⟨z, u, v, t, a, b, o, rfl, ra, ta, tb, to, fi, go⟩ := h
    refine ⟨_, (pss_one (ps_ret (pe_call B.ok (hr.mono (by decide)) rfl B.g B.k B.b .nil pass0 (pa_cons (pv 0) (pa_cons (pv 1) (pa_cons (pe_call T.ok (hr.mono (by decide)) rfl T.g T.k T.b .nil pass0 (pa_cons (pv 0) (pa_cons (pv 3) (pa_cons (pv 1) (pa_cons (pv 2) pa_nil))))) pa_nil)))))), ?_⟩
    exact ret_p (p := secondX a b o) (evp_m2 rfl ra (evp_var rfl ta) (evp_m3 rfl ra (evp_var rfl to) (evp_var rfl ta) (evp_var rfl tb) (fine_over fi).2) fi) go
theorem ok_crossed {f : Addr} {fd : FuncData} (F : Fun K "crossed" "crossed" sCrossed f fd) (R : RingT P w K mg base C f0 f1 f2 f3 f4 d0 d1 d2 d3 d4) : FnOk P w K mg base CX0 5 f fd ["ring", "one", "other"] (spM2 C crossX) := by
  refine F.ok scCrossed (fun vs H Q E h => ?_) (fun cdv A outer s H vs Q E hr h => ?_)
  · obtain ⟨z, u, v, a, b, rfl, _⟩ := h
    rfl
  · obtain ⟨z, u, v, a, b, rfl, ra, ta, tb, fi, go⟩ := h
    refine ⟨_, (pss_one (ps_ret (pe_tup (pa_cons (pe_meth (pv 0) R.cl R.sub.m R.sub.ok (hr.mono (by decide)) R.sub.b .nil pass0 (pa_cons (pe_meth (pv 0) R.cl R.mul.m R.mul.ok (hr.mono (by decide)) R.mul.b .nil pass0 (pa_cons (pe_ix ix_tup (pv 1) pe_int (fun _ _ => rfl)) (pa_cons (pe_ix ix_tup (pv 2) pe_int (fun _ _ => rfl)) pa_nil))) (pa_cons (pe_meth (pv 0) R.cl R.mul.m R.mul.ok (hr.mono (by decide)) R.mul.b .nil pass0 (pa_cons (pe_ix ix_tup (pv 1) pe_int (fun _ _ => rfl)) (pa_cons (pe_ix ix_tup (pv 2) pe_int (fun _ _ => rfl)) pa_nil))) pa_nil))) (pa_cons (pe_meth (pv 0) R.cl R.sub.m R.sub.ok (hr.mono (by decide)) R.sub.b .nil pass0 (pa_cons (pe_meth (pv 0) R.cl R.mul.m R.mul.ok (hr.mono (by decide)) R.mul.b .nil pass0 (pa_cons (pe_ix ix_tup (pv 1) pe_int (fun _ _ => rfl)) (pa_cons (pe_ix ix_tup (pv 2) pe_int (fun _ _ => rfl)) pa_nil))) (pa_cons (pe_meth (pv 0) R.cl R.mul.m R.mul.ok (hr.mono (by decide)) R.mul.b .nil pass0 (pa_cons (pe_ix ix_tup (pv 1) pe_int (fun _ _ => rfl)) (pa_cons (pe_ix ix_tup (pv 2) pe_int (fun _ _ => rfl)) pa_nil))) pa_nil))) (pa_cons (pe_meth (pv 0) R.cl R.sub.m R.sub.ok (hr.mono (by decide)) R.sub.b .nil pass0 (pa_cons (pe_meth (pv 0) R.cl R.mul.m R.mul.ok (hr.mono (by decide)) R.mul.b .nil pass0 (pa_cons (pe_ix ix_tup (pv 1) pe_int (fun _ _ => rfl)) (pa_cons (pe_ix ix_tup (pv 2) pe_int (fun _ _ => rfl)) pa_nil))) (pa_cons (pe_meth (pv 0) R.cl R.mul.m R.mul.ok (hr.mono (by decide)) R.mul.b .nil pass0 (pa_cons (pe_ix ix_tup (pv 1) pe_int (fun _ _ => rfl)) (pa_cons (pe_ix ix_tup (pv 2) pe_int (fun _ _ => rfl)) pa_nil))) pa_nil))) pa_nil)))))), ?_⟩
    have A : ∀ k : Nat, k < 3 → EvT (start ["ring", "one", "other"] [z, u, v]) H (tOp (rIxT K) (tVar 1) (tC (.int (k : Int)))) (a.at k) := fun k k3 => ev_ix k3 (evp_var rfl ta) evi_c
    have B : ∀ k : Nat, k < 3 → EvT (start ["ring", "one", "other"] [z, u, v]) H (tOp (rIxT K) (tVar 2) (tC (.int (k : Int)))) (b.at k) := fun k k3 => ev_ix k3 (evp_var rfl tb) evi_c
    have A0 := A 0 (by decide)
    have A1 := A 1 (by decide)
    have A2 := A 2 (by decide)
    have B0 := B 0 (by decide)
    have B1 := B 1 (by decide)
    have B2 := B 2 (by decide)
    exact ret_p (p := crossX a b) (evp_tup (ev_op (op := .sub) rfl ra rfl (ev_op (op := .mul) rfl ra rfl A1 B2 fi.x.1) (ev_op (op := .mul) rfl ra rfl A2 B1 fi.x.2.1) fi.x) (ev_op (op := .sub) rfl ra rfl (ev_op (op := .mul) rfl ra rfl A2 B0 fi.y.1) (ev_op (op := .mul) rfl ra rfl A0 B2 fi.y.2.1) fi.y) (ev_op (op := .sub) rfl ra rfl (ev_op (op := .mul) rfl ra rfl A0 B1 fi.w.1) (ev_op (op := .mul) rfl ra rfl A1 B0 fi.w.2.1) fi.w)) go
theorem ok_meet {f : Addr} {fd : FuncData} (F : Fun K "meet" "meet" sMeet f fd) (X : CallT P w K mg base CX0 5 "crossed" ["ring", "one", "other"] (spM2 C crossX) fX dX) : FnOk P w K mg base CX0 6 f fd ["ring", "a", "b", "c", "d"] (spM4 C meetX) := by
  refine F.ok scMeet (fun vs H Q E h => ?_) (fun cdv A outer s H vs Q E hr h => ?_)
  · obtain ⟨z, u, v, t, y, a, b, c, d, rfl, _⟩ := h
    rfl
  · obtain ⟨z, u, v, t, y, a, b, c, d, rfl, ra, ta, tb, tc, td, fi, go⟩ := h
    refine ⟨_, (pss_one (ps_ret (pe_call X.ok (hr.mono (by decide)) rfl X.g X.k X.b .nil pass0 (pa_cons (pv 0) (pa_cons (pe_call X.ok (hr.mono (by decide)) rfl X.g X.k X.b .nil pass0 (pa_cons (pv 0) (pa_cons (pv 1) (pa_cons (pv 2) pa_nil)))) (pa_cons (pe_call X.ok (hr.mono (by decide)) rfl X.g X.k X.b .nil pass0 (pa_cons (pv 0) (pa_cons (pv 3) (pa_cons (pv 4) pa_nil)))) pa_nil)))))), ?_⟩
    exact ret_p (p := meetX a b c d) (evp_m2 rfl ra (evp_m2 rfl ra (evp_var rfl ta) (evp_var rfl tb) (fine_meet fi).1) (evp_m2 rfl ra (evp_var rfl tc) (evp_var rfl td) (fine_meet fi).2) fi) go
theorem ok_centre {f : Addr} {fd : FuncData} (F : Fun K "centre" "centre" sCentre f fd) (Z : CallT P w K mg base CX0 6 "parted" ["ring", "a", "b", "n", "d"] (spParted C) fP dP) (T : CallT P w K mg base CX0 6 "turned" ["ring", "q", "a", "b"] (spM3 C turnX) fT dT) (M : CallT P w K mg base CX0 6 "meet" ["ring", "a", "b", "c", "d"] (spM4 C meetX) fM dM) : FnOk P w K mg base CX0 7 f fd ["ring", "a", "b", "c"] (spM3 C centreX) := by
  refine F.ok scCentre (fun vs H Q E h => ?_) (fun cdv A outer s H vs Q E hr h => ?_)
  · obtain ⟨z, u, v, t, q, a, b, rfl, _⟩ := h
    rfl
  · obtain ⟨z, u, v, t, a, b, c, rfl, ra, ta, tb, tc, fi, go⟩ := h
    refine ⟨_, (pss_cons (ps_set (i := 4) scCentre.nd rfl (Or.inl rfl) (pe_call Z.ok (hr.mono (by decide)) rfl Z.g Z.k Z.b .nil pass0 (pa_cons (pv 0) (pa_cons (pv 1) (pa_cons (pv 2) (pa_cons pe_int (pa_cons pe_int pa_nil)))))))
      (pss_cons (ps_set (i := 5) scCentre.nd rfl (Or.inl rfl) (pe_call Z.ok (hr.mono (by decide)) rfl Z.g Z.k Z.b .nil pass0 (pa_cons (pv 0) (pa_cons (pv 1) (pa_cons (pv 3) (pa_cons pe_int (pa_cons pe_int pa_nil)))))))
      (pss_one (ps_ret (pe_call M.ok (hr.mono (by decide)) rfl M.g M.k M.b .nil pass0 (pa_cons (pv 0) (pa_cons (pv 4) (pa_cons (pe_call T.ok (hr.mono (by decide)) rfl T.g T.k T.b .nil pass0 (pa_cons (pv 0) (pa_cons (pv 4) (pa_cons (pv 1) (pa_cons (pv 2) pa_nil))))) (pa_cons (pv 5) (pa_cons (pe_call T.ok (hr.mono (by decide)) rfl T.g T.k T.b .nil pass0 (pa_cons (pv 0) (pa_cons (pv 5) (pa_cons (pv 1) (pa_cons (pv 3) pa_nil))))) pa_nil)))))))))), ?_⟩
    obtain ⟨g1, g2⟩ := fine_meet fi
    obtain ⟨m1, m2⟩ := fine_cross g1
    obtain ⟨k1, k2⟩ := fine_cross g2
    refine st_asgp (evp_part rfl ra (evp_var rfl ta) (evp_var rfl tb) evi_c evi_c m1) (fun m G1 s1 t1 => ?_)
    refine st_asgp (evp_part rfl (ra.up s1) (evp_var rfl (ta.up s1)) (evp_var rfl (tc.up s1)) evi_c evi_c k1) (fun k G2 s2 t2 => ?_)
    have s12 := s1.trans s2
    have ra2 := ra.up s12
    exact ret_p (p := centreX a b c) (evp_m4 rfl ra2 (evp_var rfl (t1.up s2)) (evp_m3 rfl ra2 (evp_var rfl (t1.up s2)) (evp_var rfl (ta.up s12)) (evp_var rfl (tb.up s12)) m2) (evp_var rfl t2) (evp_m3 rfl ra2 (evp_var rfl t2) (evp_var rfl (ta.up s12)) (evp_var rfl (tc.up s12)) k2) fi) fun x F s3 tx => go x F (s12.trans s3) tx
end
end CN

set_option Elab.async false
set_option linter.all false
set_option maxRecDepth 100000
set_option maxHeartbeats 4000000
set_option autoImplicit false
set_option pp.maxSteps 300
/-! enumerate of a text. Speaks of no program. -/
namespace L2
open PySem PySem.Spec PyProof.Rows
/-- the signs of z, in new pairs with their numbers -/
def Itzn (z : Str) : It :=
  ⟨fun i _ => i < z.cps.size, fun i H v H' => ∃ T c, v = .ref T ∧ H T = none ∧ H' = upd H T (.tup [.int (i : Nat), .str ⟨#[c]⟩]) ∧ z.cps[i]? = some c, fun i _ => i = z.cps.size⟩
section
variable {P : Program} {w : World} {K : PySem.W.Frag} {elts : List Expr} {kk : Nat} {tpos : Pos}
theorem turn_enumS {e it : Addr} {z : Str} {t : Tok} (ne : e ≠ it) :
    Turn P w K (.Tuple elts kk tpos) (Itzn z) [e, it] e (fun i h => (∃ old, IsEnum h e it (0 + ((i : Nat) : Int)) old) ∧ h.IsStrIter it (strIterType z) z t i) where
  mem := by simp
  obj := fun i h st b hb => by
    obtain ⟨⟨old, he⟩, ⟨o, ho, hc, hd⟩⟩ := st
    have e' : b = e ∨ b = it := by simpa using hb
    rcases e' with z | z
    · rw [z]; exact ⟨_, he, fun v q => nomatch q⟩
    · rw [z]; exact ⟨o, ho, fun v q => by rw [hd] at q; cases q⟩
  keep := fun i h h' st k => by
    obtain ⟨⟨old, he⟩, ⟨o, ho, r⟩⟩ := st
    exact ⟨⟨old, k e (by simp) _ he⟩, ⟨o, k it (by simp) o ho, r⟩⟩
  item := by
    intro X hP hw hK hc i pins s σ H E I hf st hg
    subst hP hw hK
    have hh : X.A.in1.handled = none := I.ok.hd hc
    have W := GoesN.enumFrom (prog := X.prog) (w := X.w) (A := X.A) (elts := elts) (x1 := kk) (pos := tpos) 0 (Draws.text (prog := X.prog) (w := X.w) (A := X.A.in1) hh it z t) e ne (by simp [ne]) (by simp)
    refine W.goes i s _ _ hg st fun v h' tk hY st' hk htk => ?_
    obtain ⟨T, t1, u, rfl, hnew, ⟨c, t2, hcz, rfl⟩, oT, hT, hcls, nT, hdat⟩ := hY
    have e1 : (0 + ((i : Nat) : Int)) = ((i : Nat) : Int) := by omega
    rw [e1] at hdat
    have new : ObjOk X.prog X.w (upd H T (.tup [.int (i : Nat), .str ⟨#[c]⟩])) h' T (.tup [.int (i : Nat), .str ⟨#[c]⟩]) :=
      ⟨by show 2 ≤ sizeLine; decide, [.int i t1, .str ⟨#[c]⟩ t2], .cons ⟨t1, rfl⟩ (.cons ⟨t2, rfl⟩ .nil), ⟨oT, hT, hcls, nT, hdat⟩⟩
    have I1 : Inv X pins σ (upd H T (.tup [.int (i : Nat), .str ⟨#[c]⟩])) { s with heap := h', toks := tk } :=
      I.turnedNew (t' := tk) (ch := [e, it]) hk (fun b hb => hf b hb) hnew new
    refine ⟨.ref T, _, I1, rfl, ⟨T, c, rfl, I.hok.fresh hnew, rfl, hcz⟩, st', fun b hb => ?_⟩
    have bT : b < s.heap.objs.size := by
      obtain ⟨⟨_, he⟩, ⟨_, hi, _⟩⟩ := st
      have e' : b = e ∨ b = it := by simpa using hb
      rcases e' with q | q
      · rw [q]; exact Heap.lt_size he
      · rw [q]; exact Heap.lt_size hi
    rw [upd_ne (Nat.ne_of_lt (Nat.lt_of_lt_of_le bT hnew))]
    exact (hf b hb).1
  done := by
    intro X hP hw hK hc i pins s σ H E I hf st hg
    subst hP hw hK
    have hg : i = z.cps.size := hg
    subst hg
    have hh : X.A.in1.handled = none := I.ok.hd hc
    have W := GoesN.enumFrom (prog := X.prog) (w := X.w) (A := X.A) (elts := elts) (x1 := kk) (pos := tpos) 0 (Draws.text (prog := X.prog) (w := X.w) (A := X.A.in1) hh it z t) e ne (by simp [ne]) (by simp)
    refine W.stops s (fun s1 => Inv X pins σ H s1) _ st fun h' tk hk htk => ?_
    exact I.turnedL (t' := tk) (ch := [e, it]) hk fun b hb => hf b hb
  self := fun A i s Q E st h => let ⟨⟨_, he⟩, _⟩ := st; wpAny_pyIter_enum he h
end
def iEnumS (ta : TA) : TI := fun σ H R => ta σ H fun vs H1 => ∃ z : Str, vs = [.str z] ∧ R (Itzn z) H1
theorem pi_enumS {X : Cx} {e : Expr} {ta : TA} {p pos tpos : Pos} {elts : List Expr} {kk : Nat} (hg : Gl X "enumerate") (hm : X.mg "enumerate" = none) (ha : PA X [e] ta) (hs : starEach [e] X.env = [(false, eval e X.env)] := by rfl) :
    PI X (.Tuple elts kk tpos) (.Call (.Name "enumerate" p) [e] [] pos) (iEnumS ta) := by
  refine ⟨fun pins s σ H R I h => ?_⟩
  refine Call_ (ld_blt I hg hm boot_enumerate (PyProof.Rows.callWith_type1 (thn (ha.run pos pins s σ H _ I h) fun us s1 ⟨vs, H1, I1, r1, q1⟩ => ?_) hs rfl))
  obtain ⟨z, ex, q⟩ := q1
  subst ex
  obtain ⟨u, rfl, ⟨t, rfl⟩⟩ := vals1 r1
  refine call_enumerate_str fun h' he hit hsz hk => wpAny_pyIter_enum he ?_
  have I2 : Inv X pins σ H1 { s1 with heap := h' } := I1.kept (t' := s1.toks) hk
  refine ⟨s1.heap.objs.size + 1, [s1.heap.objs.size + 1, s1.heap.objs.size], _, _, H1, rfl, I2, turn_enumS (t := t) (Nat.succ_ne_self _), ⟨⟨.none, he⟩, hit⟩, fun b hb => ?_, q⟩
  have e' : b = s1.heap.objs.size + 1 ∨ b = s1.heap.objs.size := by simpa using hb
  have hle : s1.heap.objs.size ≤ b := by
    rcases e' with z | z
    · rw [z]; exact Nat.le_add_right _ _
    · rw [z]; exact Nat.le_refl _
  exact I1.fpOk hle (I1.hok.fresh hle)
theorem walk_enumS {z : Str} : Walk (Itzn z) z.cps.size (fun _ => True) (fun i H v H' => ∃ T c, v = .ref T ∧ H T = none ∧ H' = upd H T (.tup [.int (i : Nat), .str ⟨#[c]⟩]) ∧ z.cps[i]? = some c) :=
  ⟨fun _ _ hi _ => hi, fun _ _ => rfl, fun _ _ _ _ _ _ y => y⟩
end L2

set_option Elab.async false
set_option linter.all false
set_option maxRecDepth 100000
set_option maxHeartbeats 4000000
set_option autoImplicit false
set_option pp.maxSteps 300
/-! Written dicts by a list; calls with a star of a def that a local holds; tuple of a dict. Speaks of no program. -/
namespace L2
open PySem PySem.Spec PyProof.Rows
/-! ### written dicts -/
def fnd (m : List (Str × V)) (x : Str) : Option V := (m.find? (fun e => decide (e.1 = x))).map (·.2)
structure KTab (K : PySem.W.Frag) (w : World) (a : Addr) (m : List (Str × V)) : Prop where
  ex : ∃ es n, KDict K w a es n ∧ ∀ x, ∃ q, PySem.W.nsIn K a x = some q ∧ ((fnd m x = none ∧ q = none) ∨ ∃ v u, fnd m x = some v ∧ q = some u ∧ RelV v u)
theorem KTab.dct {K : PySem.W.Frag} {w : World} {a : Addr} {m : List (Str × V)} (T : KTab K w a m) {x : Str} {v : V} (h : fnd m x = some v) : KDct K w a x v := by
  obtain ⟨es, n, D, f⟩ := T.ex
  obtain ⟨q, hq, h2⟩ := f x
  rcases h2 with ⟨h2, _⟩ | ⟨v2, u, h2, rfl, r⟩
  · rw [h] at h2; cases h2
  · rw [h] at h2
    cases h2
    exact ⟨es, n, u, D.at_, D.lit, hq, r⟩
def rInTab (K : PySem.W.Frag) (w : World) : R2 := fun x y H Q => ∃ z d m, x = .str z ∧ y = .ref d ∧ KTab K w d m ∧ Q (.bl (fnd m z).isSome) H
def rNotInTab (K : PySem.W.Frag) (w : World) : R2 := fun x y H Q => ∃ z d m, x = .str z ∧ y = .ref d ∧ KTab K w d m ∧ Q (.bl (!(fnd m z).isSome)) H
section
variable {X : Cx}
theorem op_in_tab : OpR X (compareOp .In) (rInTab X.K X.w) := by
  intro pins s σ H x y v u Q I rx ry h
  obtain ⟨z, d, m, ex, ey, T, q⟩ := h
  obtain ⟨es, n, D, f⟩ := T.ex
  obtain ⟨r, hq, h2⟩ := f z
  refine op_in_kd D pins s σ H x y v u Q I rx ry ⟨z, r, ex, ey, hq, ?_⟩
  rcases h2 with ⟨h2, rfl⟩ | ⟨v2, u, h2, rfl, _⟩ <;> rw [h2] at q <;> exact q
theorem op_notin_tab : OpR X (compareOp .NotIn) (rNotInTab X.K X.w) := by
  intro pins s σ H x y v u Q I rx ry h
  obtain ⟨z, d, m, ex, ey, T, q⟩ := h
  obtain ⟨es, n, D, f⟩ := T.ex
  obtain ⟨r, hq, h2⟩ := f z
  refine op_notIn_kd D pins s σ H x y v u Q I rx ry ⟨z, r, ex, ey, hq, ?_⟩
  rcases h2 with ⟨h2, rfl⟩ | ⟨v2, u, h2, rfl, _⟩ <;> rw [h2] at q <;> exact q
/-- d.get(y, z) -/
def tKGet2 (K : PySem.W.Frag) (w : World) (td ty tz : TE) : TE := fun σ H Q => td σ H fun x H1 => ∃ a m, x = .ref a ∧ KTab K w a m ∧ ty σ H1 fun y H2 => tz σ H2 fun z H3 => ∃ s, y = .str s ∧ Q ((fnd m s).getD z) H3
theorem pe_kget2 {o e f : Expr} {apos cpos : Pos} {td ty tx : TE} (ho : PE X o td) (he : PE X e ty) (hf : PE X f tx) (m : M2 X o "get" apos e f cpos) : PE X (.Call (.Attribute o "get" apos) [e, f] [] cpos) (tKGet2 X.K X.w td ty tx) := by
  refine ⟨fun pins s σ H Q I h => ?_⟩
  refine wpAny_Call_method m.base m.few m.line PySem.F.plainAttrs_dict PySem.F.slot_dict_get PySem.F.type_dict_get (thn (ho.run pins s σ H _ I h) fun u s1 ⟨x, H1, I1, rx, a, mm, ex, T, q1⟩ => ?_)
  subst ex
  obtain rfl : u = Value.ref a := rx
  obtain ⟨es, n, D, ff⟩ := T.ex
  refine ⟨kd_type D I1, fun b q => ?_, ?_⟩
  · cases q
    exact ⟨_, I1.kIn _ _ D.at_, rfl⟩
  rw [m.trees]
  refine Calls.callWith_builtin rfl (Calls.evalArgs_plain (Calls.spliced_cons (thn (he.run pins s1 σ H1 _ I1 q1) fun iv s2 ⟨y, H2, I2, ry, q2⟩ =>
    Calls.spliced_cons (thn (hf.run pins s2 σ H2 _ I2 q2) fun fv s3 ⟨z, H3, I3, rz, zs, ey, q3⟩ => Calls.spliced_nil ?_))))
  subst ey
  obtain ⟨t, rfl⟩ := ry
  obtain ⟨r, hq, h2⟩ := ff zs
  have hm := PySem.W.mapOf_K (prog := X.prog) (w := X.w) I3.kIn D.at_ D.lit
  refine call_meetsIn PySem.F.slot_dict_get hm.typeIs PySem.F.entry_dict_get (PySem.F.args_dict_get_3 _ _ _) (meets_dict_get_default (strKind X.prog X.w) a (strKind_is X.prog X.w zs t) D.low fv) ⟨_, hm, ?_⟩
  rw [PySem.W.find_K D.at_ hq]
  rcases h2 with ⟨h2, rfl⟩ | ⟨v2, u2, h2, rfl, r2⟩
  · rw [h2] at q3
    exact ⟨z, H3, I3.tok _, rz, q3⟩
  · rw [h2] at q3
    exact ⟨v2, H3, I3.tok _, r2, q3⟩
end
/-! ### f(a, *b) of a local that holds one of several defs -/
def tCallAS (P : Program) (w : World) (K : PySem.W.Frag) (mg : Str → Option Value) (base : Heap) (k i : Nat) (t : TA) : TE := fun σ H Q => ∃ f sp, σ[i]? = some (some (.ref f)) ∧ Held P w K mg base k f sp ∧ t σ H fun vs H1 => sp vs H1 Q (fun _ _ _ => False)
section
variable {X : Cx} {k i : Nat} {x : Str} {p pos : Pos} {e : Expr} {es : List Expr} {t : TA}
theorem pe_callAS (hr : Room k X.A) (hN : X.N[i]? = some x) (hv : Vis X.env.scope x) (ha : PA X (e :: es) t)
    (hdb : (x == ("__debug__" : Str)) = false := by decide) (hcd : (x == ("__classdict__" : Str)) = false := by decide)
    (he : starEach (e :: es) X.env = (false, eval e X.env) :: starEach es X.env := by rfl) (hst : (backTo pos (starEach es X.env)).any (·.1) = true := by rfl) : PE X (.Call (.Name x p) (e :: es) [] pos) (tCallAS X.prog X.w X.K X.mg X.base k i t) := by
  refine ⟨fun pins s σ H Q I h => ?_⟩
  obtain ⟨f, sp, hs, hS, ht⟩ := h
  obtain ⟨fd, ps, F, hk, hb⟩ := hS.ex
  refine wpAny_Call_Name_kw (thn ((pe_var (pos := p) hN hv hdb hcd).run pins s σ H (fun v H1 => v = .ref f ∧ H1 = H) I ⟨.ref f, hs, rfl, rfl⟩) fun u s1 ⟨v, H1, I1, r1, q1⟩ => ?_)
  obtain ⟨rfl, rfl⟩ := q1
  cases r1
  refine PySem.W.callWith_S2 (h₀ := X.base) I.ok.mod.kin hk (thn (ha.run pos pins s1 σ _ _ I1 ht) fun us s2 ⟨vs, H2, I2, r, q⟩ => ⟨I2.kIn, ?_⟩) he hst
  refine wpAny_call (run_fnR (F.raw hb .nil) hr (E := fun _ _ _ => False) (fun _ _ _ _ _ _ _ z => z.elim) I2 r ?_)
  rw [List.append_nil]
  exact q
/-! ### tuple(d): its keys -/
theorem code_tuple_newD {prog : Program} {w : World} {A : Around} {E : Value → Shared → Prop} {r d : Addr} {n : Nat} {P : Nat → Value → Prop} {OK : Heap → Prop} {s : Shared} {Q₁ : Value → Shared → Prop} (K : PySem.W.KdlSrc prog w "dict" r d n P OK) (hh : A.handled = none) (hok : OK s.heap) (hn : n ≤ sizeLine)
    (h : ∀ (h' : Heap) (tk : Nat) (acc : Array Value), (∀ b o, s.heap.get? b = some o → h'.get? b = some o) → ItemsOf P acc n →
      Q₁ (.ref h'.objs.size) { s with heap := h'.push { cls := .type "tuple", data := .seq acc }, toks := tk }) :
    codeAny (model prog w) A (.call (.builtin "tuple.__new__") ⟨[.type "tuple", .ref r], []⟩) (wants Q₁ E) s := by
  refine codeAny_of_tree ?_
  show wpAny _ A.in1 (do checkBuiltinCall "tuple.__new__" ⟨[.type "tuple", .ref r], []⟩; again (.builtin "tuple.__new__" ⟨[.type "tuple", .ref r], []⟩)) _ _ s
  refine wpAny_bind (wpAny_of_eq (F.newCall_tuple_1 _) (wpAny_pure ⟨plainId_quiet F.plain_tuple_new _, codeAny_builtin F.entry_tuple_new ?_⟩))
  rw [Around.under_plainId F.plain_tuple_new _]
  have hsub := sub_tuple_self
  have hinit := init_tuple_lookup
  have hmh := madeHere_tuple
  have hTI : s.TypeIs (.ref r) "dict" := K.type _ hok
  have hh1 : A.in1.handled = none := hh
  wp_walk using wpAny_typeOf hTI, PySem.W.kdu_collect (A := A.in1) K hh1 hok hn
  intro h' tk acc hk hacc
  show wpAny _ _ (Builtin.Tuple.tupleExact acc.toList.toArray >>= fun v => ret v) _ _ _
  unfold Builtin.Tuple.tupleExact
  refine wpAny_bind (wpAny_newObj_type ?_ (by show acc.toList.toArray.size ≤ sizeLine; simp only [Array.toArray_toList]; rw [hacc.1]; exact hn))
  refine wpAny_pure ?_
  have e : acc.toList.toArray = acc := by simp
  rw [e]
  exact h h' tk acc hk hacc
theorem call_tupleD (hcalm : X.calm = true) : CallR X (.type "tuple") (fun xs H Q => ∃ (a : Addr) (kvs : List (Key × V)), xs = [.ref a] ∧ Rd H a (.dK kvs) ∧ ∀ p, H p = none → Q (.ref p) (upd H p (.tup (kvs.map fun kv => kV kv.1)))) := by
  intro pins s σ H xs us Q I r q
  obtain ⟨a, kvs, ex, hd, q⟩ := q
  subst ex
  obtain ⟨u, eu, rx⟩ := vals1 r
  subst eu
  cases rx
  obtain ⟨z, lo, vs, rel, dd⟩ := dk_rd I.hok hd
  obtain ⟨ep, hat⟩ := dd.dictAt
  have ek : (kvs.map fun kv => kV kv.1) = vs.map fun p => kV p.1 := by
    have e := congrArg (List.map kV) rel.keys
    rw [List.map_map, List.map_map] at e
    exact e
  refine callType_codes (Q₁ := fun obj s₁ => s₁.TypeIs obj "tuple" ∧ EP X pins σ Q obj s₁) F.called_tuple (F.typeCall_tuple_1 _) F.entry_object_init
    (code_tuple_newD (A := X.A.in1) (PySem.W.kdl_dict (knd := mixKind X.prog X.w) (kvs := vs) (ep := ep) lo) (I.ok.hd hcalm) hat (by rw [← rel.length]; exact z) fun h' tk acc hk hacc => ⟨⟨_, Heap.get?_push_size _ rfl, rfl⟩, ?_⟩) fun obj s₁ h₁ => ?_
  · have hv : Vals (vs.map fun p => kV p.1) acc.toList := keys_at (by rw [Array.length_toList]; exact hacc.1) fun j v e => hacc.2 j v (by rw [← Array.getElem?_toList]; exact e)
    have I1 : Inv X pins σ H { s with heap := h', toks := tk } := I.kept hk
    refine ⟨.ref h'.objs.size, upd H h'.objs.size (.tup (kvs.map fun kv => kV kv.1)), I1.laid (t' := tk) (fun b u e => Heap.get?_push_of_some _ e) (Nat.le_refl _)
      (show ObjOk X.prog X.w _ _ _ (.tup (kvs.map fun kv => kV kv.1)) from ?_), rfl, q _ (I1.hok.fresh (Nat.le_refl _))⟩
    refine ⟨by rw [List.length_map]; exact z, acc.toList, by rw [ek]; exact hv, ⟨_, Heap.get?_push_size _ rfl, rfl, 0, ?_⟩⟩
    rw [Array.toArray_toList]
  · exact ⟨h₁.1, F.args_object_init_2 obj _, object_init_meets F.called_tuple.init.lookup F.called_tuple.made (by decide) X.prog X.w X.A.in1 _ s₁ ⟨h₁.1, rfl, h₁.2⟩⟩
end
end L2

set_option Elab.async false
set_option linter.all false
set_option maxRecDepth 100000
set_option maxHeartbeats 4000000
set_option autoImplicit false
set_option pp.maxSteps 300
/-! The errors: made, raised. One promise for classes with one attribute. -/
namespace CN
open PySem L2 K1D K2P
/-- what is shown in an error's text -/
inductive Shown : V → Prop
  | int (n : Nat) (h : n < 1000) : Shown (.int (n : Int))
  | str (y : Str) (h : y.length ≤ 1000) : Shown (.str y)
def spIniE (K : PySem.W.Frag) (C : Addr) (fl : Str) : Sp := fun vs H Q _ => ∃ (a : Addr) (x : V), vs = [.ref a, x] ∧ Shown x ∧ ErrC K C ∧ PySem.W.findIn K (.ref C) fl = some none ∧ H a = some (exo a C none) ∧
  ∀ dx, H dx = none → dx ≠ a → Q .non (upd (upd H dx (exd dx [(fl, x)])) a (exo a C (some dx)))
theorem fits {a b : Str} (h1 : a.length ≤ 1000) (h2 : b.length ≤ 300000) : (a ++ b).length ≤ sizeLine := by
  rw [strLen_append, sizeLine_eq]
  omega
theorem fits2 {a b c : Str} (h1 : a.length ≤ 1000) (h2 : b.length ≤ 300000) (h3 : c.length ≤ 1000) : (a ++ b ++ c).length ≤ sizeLine := by
  rw [strLen_append, strLen_append, sizeLine_eq]
  omega
theorem heap_of {H : Hp} {a d : Addr} {o1 o2 o3 o4 : HO} (na : H a = none) (ne : d ≠ a) : upd (del (upd (upd (upd H a o1) d o2) a o3) a) d o4 = upd H d o4 := by
  funext b
  by_cases hd : b = d
  · rw [hd, upd_same, upd_same]
  · rw [upd_ne hd, upd_ne hd]
    by_cases ha : b = a
    · rw [ha, del_same, na]
    · rw [del_ne ha, upd_ne ha, upd_ne hd, upd_ne ha]
theorem okN {P : Program} {w : World} {K : PySem.W.Frag} {mg : Str → Option Value} {base : Heap} {x qual : Str} {st : Stmt} {f : Addr} {fd : FuncData} {N ps : List Str} {k : Nat} {sp : Sp} (F : Fun K x qual st f fd) (S : FnScope N ps (defScope st)) (len : ∀ vs H Q E, sp vs H Q E → vs.length = ps.length)
    (body : ∀ (cdv : Value) (A : Around) (outer : List Env) (s : Shared) (H : Hp) (vs : List V) (Q : VK) (E : XK), Room k (A.deeper (PyProof.Rows.envOfC qual (defScope st) s.heap.objs.size f cdv)) → sp vs H Q E →
      ∃ t, PSs (cxOf (L2N.CX P w) P w K mg base N qual (defScope st) f cdv A outer s H E) (defBody st) t ∧ t { nx := fun _ H' => Q .non H', rt := Q } (start N vs) H) : FnOk P w K mg base (L2N.CX P w) (k + 1) f fd ps sp := by
  obtain ⟨oc, od, kV, doc, pm, an, cdv, ct, osl, rfl, lk, hcd⟩ := F.ex
  exact fn_of lk hcd S len fun A outer s H vs Q E hr hsp => body cdv A outer s H vs Q E hr hsp
theorem takes0N {X : Cx} : L2N.Takes X (fun _ _ _ _ => False) := fun _ _ ⟨_, _, _, _, _, _, _, _, _, _, _, _, _, _, _, _, z⟩ => z.elim
theorem Nat.log2_lt_self' (n : Nat) (h : n < 1000) : ((n : Int)).natAbs.log2 < 10 := by
  rw [Int.natAbs_natCast]
  by_cases h0 : n = 0
  · subst h0; decide
  · exact (Nat.log2_lt h0).mpr (by omega)
/-- what the written part says of an error's class -/
structure ErrT (P : Program) (w : World) (K : PySem.W.Frag) (mg : Str → Option Value) (base : Heap) (nm fl : Str) (B C fI : Addr) (dI : FuncData) : Prop where
  gC : mg nm = some (.ref C)
  err : ErrC K C
  iC : PySem.W.findIn K (.ref C) "__init__" = some (some (.ref fI))
  tI : PySem.W.typeIn K (.ref fI) = some (.type "function")
  no : PySem.W.findIn K (.ref C) fl = some none
  bd : Binds K dI ["self", fl] []
  ini : FnOk P w K mg base CX0 1 fI dI ["self", fl] (spIniE K C fl)
  exB : PySem.W.exmOne K (.ref C) (.ref B) = some true
  ask : AskC K C
  xf : XfC K C
/-- it is raised, with this -/
def Raises (C : Addr) (fl : Str) (x : V) (H : Hp) (E : XK) : Prop := ∀ (G : Hp) (dd : Addr), Same H G → G dd = none → E (.ref C) (some dd) (upd G dd (.xd [(fl, x)]))
theorem Raises.up {C : Addr} {fl : Str} {x : V} {H G : Hp} {E : XK} (h : Raises C fl x H E) (s : Same H G) : Raises C fl x G E := fun F dd t n => h F dd (s.trans t) n
theorem err_fin {P : Program} {w : World} {K : PySem.W.Frag} {mg : Str → Option Value} {base : Heap} {nm fl : Str} {B C fI : Addr} {dI : FuncData} {H : Hp} {Q : XK} {x : V} (T : ErrT P w K mg base nm fl B C fI dI) (hx : Shown x) (go : Raises C fl x H Q) :
    [x].length ≤ 1000 ∧ ∀ a, H a = none → spIniE K C fl (.ref a :: [x]) (upd H a (exo a C none)) (fun v H2 => v = .non ∧ ∃ (d : Addr) (fs : List (Str × V)), H2 a = some (exo a C (some d)) ∧ H2 d = some (exd d fs) ∧ H d = none ∧ Q (.ref C) (some d) (upd (del H2 a) d (.xd fs))) (fun _ _ _ => False) := by
  refine ⟨by show 1 ≤ 1000; decide, fun a na => ⟨a, x, rfl, hx, T.err, T.no, upd_same, fun dx nd ne => ⟨rfl, dx, _, upd_same, (upd_ne ne).trans upd_same, ?_, ?_⟩⟩⟩
  · rw [upd_ne ne] at nd
    exact nd
  · rw [heap_of na ne]
    rw [upd_ne ne] at nd
    exact go H dx (Same.refl H) nd
abbrev sBadValue : Stmt := inClass (K2P.top 3) 0
section
variable {P : Program} {w : World} {K : PySem.W.Frag} {mg : Str → Option Value} {base : Heap} {B : Addr}
theorem scBadValue : FnScope ["self", "at"] ["self", "at"] (defScope sBadValue) := ⟨rfl, rfl, rfl, by decide +kernel, rfl, by decide +kernel, by decide +kernel⟩
theorem iniBadValue {f C : Addr} {fd : FuncData} (F : Fun K "__init__" "BadValue.__init__" sBadValue f fd) (T : BaseC K B) (gB : mg "FigureError" = some (.ref B)) : FnOk P w K mg base CX0 1 f fd ["self", "at"] (spIniE K C "at") := by
  refine F.ok scBadValue (fun vs H Q E h => ?_) (fun cdv A outer s H vs Q E hr h => ?_)
  · obtain ⟨a, x, rfl, _⟩ := h
    rfl
  · obtain ⟨a, x, rfl, sh, TC, no, ha, go⟩ := h
    refine ⟨_, pss_cons (ps_expr (pe_base T rfl gB (pa_cons (pv 0) (pa_cons (pe_joined (.cons pe_str (.cons (pe_fmt (pv 1)) (.cons pe_str .nil)))) pa_nil)))) (pss_one (ps_field (pv 0) (pv 1))), ?_⟩
    refine ⟨_, rfl, _, rfl, by decide +kernel, _, rfl, ?_⟩
    cases sh with
    | int n h =>
      have hz : ((n : Int)).natAbs.log2 < 1920 := Nat.lt_of_lt_of_le (Nat.log2_lt_self' n h) (by decide)
      exact .inr ⟨n, rfl, hz, _, rfl, fits (by decide +kernel) (Nat.le_trans (PyProof.Rows.int_text_len_1921 hz) (by decide)), _, rfl, fits2 (by decide +kernel) (Nat.le_trans (PyProof.Rows.int_text_len_1921 hz) (by decide)) (by decide +kernel), a, C, _, rfl, by show 1 ≤ 1000; decide, TC, ha, _, rfl, _, rfl, a, C, rfl, TC, no, ha, fun dx n ne => go dx n ne⟩
    | str y h => exact .inl ⟨y, rfl, by rw [sizeLine_eq]; omega, _, rfl, fits (by decide +kernel) (by omega), _, rfl, fits2 (by decide +kernel) (by omega) (by decide +kernel), a, C, _, rfl, by show 1 ≤ 1000; decide, TC, ha, _, rfl, _, rfl, a, C, rfl, TC, no, ha, fun dx n ne => go dx n ne⟩
end
abbrev sBadStep : Stmt := inClass (K2P.top 4) 0
section
variable {P : Program} {w : World} {K : PySem.W.Frag} {mg : Str → Option Value} {base : Heap} {B : Addr}
theorem scBadStep : FnScope ["self", "at"] ["self", "at"] (defScope sBadStep) := ⟨rfl, rfl, rfl, by decide +kernel, rfl, by decide +kernel, by decide +kernel⟩
theorem iniBadStep {f C : Addr} {fd : FuncData} (F : Fun K "__init__" "BadStep.__init__" sBadStep f fd) (T : BaseC K B) (gB : mg "FigureError" = some (.ref B)) : FnOk P w K mg base CX0 1 f fd ["self", "at"] (spIniE K C "at") := by
  refine F.ok scBadStep (fun vs H Q E h => ?_) (fun cdv A outer s H vs Q E hr h => ?_)
  · obtain ⟨a, x, rfl, _⟩ := h
    rfl
  · obtain ⟨a, x, rfl, sh, TC, no, ha, go⟩ := h
    refine ⟨_, pss_cons (ps_expr (pe_base T rfl gB (pa_cons (pv 0) (pa_cons (pe_joined (.cons pe_str (.cons (pe_fmt (pv 1)) (.cons pe_str .nil)))) pa_nil)))) (pss_one (ps_field (pv 0) (pv 1))), ?_⟩
    refine ⟨_, rfl, _, rfl, by decide +kernel, _, rfl, ?_⟩
    cases sh with
    | int n h =>
      have hz : ((n : Int)).natAbs.log2 < 1920 := Nat.lt_of_lt_of_le (Nat.log2_lt_self' n h) (by decide)
      exact .inr ⟨n, rfl, hz, _, rfl, fits (by decide +kernel) (Nat.le_trans (PyProof.Rows.int_text_len_1921 hz) (by decide)), _, rfl, fits2 (by decide +kernel) (Nat.le_trans (PyProof.Rows.int_text_len_1921 hz) (by decide)) (by decide +kernel), a, C, _, rfl, by show 1 ≤ 1000; decide, TC, ha, _, rfl, _, rfl, a, C, rfl, TC, no, ha, fun dx n ne => go dx n ne⟩
    | str y h => exact .inl ⟨y, rfl, by rw [sizeLine_eq]; omega, _, rfl, fits (by decide +kernel) (by omega), _, rfl, fits2 (by decide +kernel) (by omega) (by decide +kernel), a, C, _, rfl, by show 1 ≤ 1000; decide, TC, ha, _, rfl, _, rfl, a, C, rfl, TC, no, ha, fun dx n ne => go dx n ne⟩
end
abbrev sImpossible : Stmt := inClass (K2P.top 5) 0
section
variable {P : Program} {w : World} {K : PySem.W.Frag} {mg : Str → Option Value} {base : Heap} {B : Addr}
theorem scImpossible : FnScope ["self", "name"] ["self", "name"] (defScope sImpossible) := ⟨rfl, rfl, rfl, by decide +kernel, rfl, by decide +kernel, by decide +kernel⟩
theorem iniImpossible {f C : Addr} {fd : FuncData} (F : Fun K "__init__" "Impossible.__init__" sImpossible f fd) (T : BaseC K B) (gB : mg "FigureError" = some (.ref B)) : FnOk P w K mg base CX0 1 f fd ["self", "name"] (spIniE K C "name") := by
  refine F.ok scImpossible (fun vs H Q E h => ?_) (fun cdv A outer s H vs Q E hr h => ?_)
  · obtain ⟨a, x, rfl, _⟩ := h
    rfl
  · obtain ⟨a, x, rfl, sh, TC, no, ha, go⟩ := h
    refine ⟨_, pss_cons (ps_expr (pe_base T rfl gB (pa_cons (pv 0) (pa_cons (pe_joined (.cons pe_str (.cons (pe_fmt (pv 1)) (.cons pe_str .nil)))) pa_nil)))) (pss_one (ps_field (pv 0) (pv 1))), ?_⟩
    refine ⟨_, rfl, _, rfl, by decide +kernel, _, rfl, ?_⟩
    cases sh with
    | int n h =>
      have hz : ((n : Int)).natAbs.log2 < 1920 := Nat.lt_of_lt_of_le (Nat.log2_lt_self' n h) (by decide)
      exact .inr ⟨n, rfl, hz, _, rfl, fits (by decide +kernel) (Nat.le_trans (PyProof.Rows.int_text_len_1921 hz) (by decide)), _, rfl, fits2 (by decide +kernel) (Nat.le_trans (PyProof.Rows.int_text_len_1921 hz) (by decide)) (by decide +kernel), a, C, _, rfl, by show 1 ≤ 1000; decide, TC, ha, _, rfl, _, rfl, a, C, rfl, TC, no, ha, fun dx n ne => go dx n ne⟩
    | str y h => exact .inl ⟨y, rfl, by rw [sizeLine_eq]; omega, _, rfl, fits (by decide +kernel) (by omega), _, rfl, fits2 (by decide +kernel) (by omega) (by decide +kernel), a, C, _, rfl, by show 1 ≤ 1000; decide, TC, ha, _, rfl, _, rfl, a, C, rfl, TC, no, ha, fun dx n ne => go dx n ne⟩
end
abbrev sTooMany : Stmt := inClass (K2P.top 6) 0
section
variable {P : Program} {w : World} {K : PySem.W.Frag} {mg : Str → Option Value} {base : Heap} {B : Addr}
theorem scTooMany : FnScope ["self", "word"] ["self", "word"] (defScope sTooMany) := ⟨rfl, rfl, rfl, by decide +kernel, rfl, by decide +kernel, by decide +kernel⟩
theorem iniTooMany {f C : Addr} {fd : FuncData} (F : Fun K "__init__" "TooMany.__init__" sTooMany f fd) (T : BaseC K B) (gB : mg "FigureError" = some (.ref B)) : FnOk P w K mg base CX0 1 f fd ["self", "word"] (spIniE K C "word") := by
  refine F.ok scTooMany (fun vs H Q E h => ?_) (fun cdv A outer s H vs Q E hr h => ?_)
  · obtain ⟨a, x, rfl, _⟩ := h
    rfl
  · obtain ⟨a, x, rfl, sh, TC, no, ha, go⟩ := h
    refine ⟨_, pss_cons (ps_expr (pe_base T rfl gB (pa_cons (pv 0) (pa_cons (pe_joined (.cons pe_str (.cons (pe_fmt (pv 1)) .nil))) pa_nil)))) (pss_one (ps_field (pv 0) (pv 1))), ?_⟩
    refine ⟨_, rfl, _, rfl, by decide +kernel, _, rfl, ?_⟩
    cases sh with
    | int n h =>
      have hz : ((n : Int)).natAbs.log2 < 1920 := Nat.lt_of_lt_of_le (Nat.log2_lt_self' n h) (by decide)
      exact .inr ⟨n, rfl, hz, _, rfl, fits (by decide +kernel) (Nat.le_trans (PyProof.Rows.int_text_len_1921 hz) (by decide)), a, C, _, rfl, by show 1 ≤ 1000; decide, TC, ha, _, rfl, _, rfl, a, C, rfl, TC, no, ha, fun dx n ne => go dx n ne⟩
    | str y h => exact .inl ⟨y, rfl, by rw [sizeLine_eq]; omega, _, rfl, fits (by decide +kernel) (by omega), a, C, _, rfl, by show 1 ≤ 1000; decide, TC, ha, _, rfl, _, rfl, a, C, rfl, TC, no, ha, fun dx n ne => go dx n ne⟩
end
end CN

set_option Elab.async false
set_option linter.all false
set_option maxRecDepth 100000
set_option maxHeartbeats 4000000
set_option autoImplicit false
set_option pp.maxSteps 300
/-! figurehold.fields: a new Fields. -/
namespace K2P
open PySem L2 K1D
abbrev KS := List (Str × Int)
abbrev sFInit : Stmt := inClass (top 8) 0
def wts (r n : Nat) : List V := (List.range (n + 1)).map fun i => V.int ((r ^ i : Nat) : Int)
theorem wts_succ (r n : Nat) : wts r (n + 1) = wts r n ++ [V.int ((r ^ (n + 1) : Nat) : Int)] := by
  unfold wts
  rw [List.range_succ, List.map_append]
  rfl
theorem wts_len (r n : Nat) : (wts r n).length = n + 1 := by
  unfold wts
  rw [List.length_map, List.length_range]
theorem wts_last (r n : Nat) : atI (wts r n) (-1) = some (V.int ((r ^ n : Nat) : Int)) := by
  cases n with
  | zero => rfl
  | succ n =>
    rw [wts_succ]
    exact atI_last _ _
theorem wts_at {r n i : Nat} (h : i ≤ n) : (wts r n)[i]? = some (V.int ((r ^ i : Nat) : Int)) := by
  unfold wts
  rw [List.getElem?_map, List.getElem?_range (by omega)]
  rfl
def plT (ns : List Str) : KS := ns.zipIdx.map fun x => (x.1, (x.2 : Int))
theorem plT_snoc (ns : List Str) (x : Str) : plT (ns ++ [x]) = plT ns ++ [(x, (ns.length : Int))] := by
  unfold plT
  rw [List.zipIdx_append, List.map_append]
  simp
theorem plT_keys (ns : List Str) : (plT ns).map (·.1) = ns := by
  unfold plT
  rw [List.map_map]
  exact List.zipIdx_map_fst 0 ns
theorem plT_len (ns : List Str) : (plT ns).length = ns.length := by
  unfold plT
  rw [List.length_map, List.length_zipIdx]
theorem putS_new {D : KS} {k : Str} {c : Int} (h : k ∉ D.map (·.1)) : putT D k c = D ++ [(k, c)] := by
  unfold putT
  rw [valT_none.mpr h]
  rfl
theorem plT_at {ns : List Str} (nd : ns.Nodup) {i : Nat} {x : Str} (h : ns[i]? = some x) : valT (plT ns) x = some (i : Int) := by
  rw [valT_mem (by rw [plT_keys]; exact nd)]
  unfold plT
  refine List.mem_map.mpr ⟨(x, i), ?_, rfl⟩
  rw [List.mem_zipIdx_iff_getElem?]
  exact h
/-- a Fields's own attributes -/
def fF (l1 l2 l3 : Addr) : List (Str × V) := [("names", .ref l1), ("weights", .ref l2), ("places", .ref l3)]
theorem nw : ¬ (("names" : Str) = "weights") := by decide +kernel
theorem np : ¬ (("names" : Str) = "places") := by decide +kernel
theorem wp : ¬ (("weights" : Str) = "places") := by decide +kernel
theorem f_names {l : List (Str × V)} {x : V} : (((("names" : Str), x) :: l).lookup ("names" : Str)) = some x := by simp [List.lookup]
theorem f_weights {l : List (Str × V)} {x y : V} : (((("names" : Str), x) :: (("weights" : Str), y) :: l).lookup ("weights" : Str)) = some y := by
  have h : (("weights" : Str) == "names") = false := by decide +kernel
  simp [List.lookup, h]
theorem f_places {l : List (Str × V)} {x y z : V} : (((("names" : Str), x) :: (("weights" : Str), y) :: (("places" : Str), z) :: l).lookup ("places" : Str)) = some z := by
  have h : (("places" : Str) == "names") = false := by decide +kernel
  have h2 : (("places" : Str) == "weights") = false := by decide +kernel
  simp [List.lookup, h, h2]
theorem put1 (x : V) : putF "names" x [] = ([("names", x)] : List (Str × V)) := rfl
theorem put2 (x y : V) : putF "weights" y ([("names", x)] : List (Str × V)) = ([("names", x), ("weights", y)] : List (Str × V)) := by
  show (if ("names" : Str) = "weights" then [(("names" : Str), y)] else (("names" : Str), x) :: putF "weights" y []) = ([("names", x), ("weights", y)] : List (Str × V))
  rw [if_neg nw]
  rfl
theorem put3 (x y z : V) : putF "places" z ([("names", x), ("weights", y)] : List (Str × V)) = ([("names", x), ("weights", y), ("places", z)] : List (Str × V)) := by
  show (if ("names" : Str) = "places" then [(("names" : Str), z), (("weights" : Str), y)] else (("names" : Str), x) :: (if ("weights" : Str) = "places" then [(("weights" : Str), z)] else (("weights" : Str), y) :: putF "places" z [])) = ([("names", x), ("weights", y), ("places", z)] : List (Str × V))
  rw [if_neg np, if_neg wp]
  rfl
/-- at f a Fields with these names and this radix -/
structure FieldsAt (C : Addr) (H : Hp) (f : Addr) (ns : List Str) (r : Nat) : Prop where
  ob : ∃ dx l1 l2 l3, H f = some (.ins C dx (fF l1 l2 l3)) ∧ H l1 = some (.lst (ns.map V.str)) ∧ H l2 = some (.lst (wts r ns.length)) ∧ H l3 = some (.dK (mpT eS (plT ns)))
  nd : ns.Nodup
  n1 : ns.length ≤ 1000
  rk : r < 2 ^ 800
theorem FieldsAt.up {C : Addr} {H G : Hp} {f : Addr} {ns : List Str} {r : Nat} (h : FieldsAt C H f ns r) (s : Same H G) : FieldsAt C G f ns r := by
  obtain ⟨⟨dx, l1, l2, l3, h0, h1, h2, h3⟩, nd, n1, rk⟩ := h
  exact ⟨⟨dx, l1, l2, l3, s _ _ h0, s _ _ h1, s _ _ h2, s _ _ h3⟩, nd, n1, rk⟩
structure FldTxt (K : PySem.W.Frag) (mg : Str → Option Value) (C : Addr) : Prop where
  cl : Cls K C
  nN : NoAttr K C "names"
  nW : NoAttr K C "weights"
  nP : NoAttr K C "places"
  gC : mg "Fields" = some (.ref C)
  list : mg "list" = none
  enum : mg "enumerate" = none
  sum : mg "sum" = none
  tuple : mg "tuple" = none
  sorted : mg "sorted" = none
  len : mg "len" = none
  divmod : mg "divmod" = none
def spFInit (K : PySem.W.Frag) (C : Addr) : Sp := fun vs H Q _ => ∃ (p dx l : Addr) (ns : List Str) (r k : Nat), vs = [.ref p, .ref l, .int r] ∧ H p = some (.ins C dx []) ∧ SqL K H l (ns.map V.str) ∧ ns.Nodup ∧ ns.length ≤ 1000 ∧ r < 2 ^ k ∧ 0 < k ∧ k ≤ 800 ∧
  ∀ (G : Hp), FieldsAt C G p ns r → (∀ b o, H b = some o → b ≠ p → G b = some o) → Q .non G
theorem pow_bits {r k n : Nat} (h : r < 2 ^ k) : (((r ^ n : Nat) : Int)).natAbs < 2 ^ (k * n + 1) := by
  rw [Int.natAbs_natCast, Nat.pow_succ, Nat.pow_mul]
  have := Nat.pow_le_pow_left (Nat.le_of_lt h) n
  have p : 0 < (2 ^ k) ^ n := Nat.pow_pos (Nat.pow_pos (by decide))
  omega
section
variable {P : Program} {w : World} {K : PySem.W.Frag} {mg : Str → Option Value} {base : Heap} {C : Addr}
theorem scFInit : FnScope ["self", "names", "radix", "_", "name", "at"] ["self", "names", "radix"] (defScope sFInit) := ⟨rfl, rfl, rfl, by decide +kernel, rfl, by decide +kernel, by decide +kernel⟩
theorem ok_finit {f : Addr} {fd : FuncData} (F : Fun K "__init__" "Fields.__init__" sFInit f fd) (T : FldTxt K mg C) : FnOk P w K mg base CX0 1 f fd ["self", "names", "radix"] (spFInit K C) := by
  refine F.ok scFInit (fun vs H Q E h => ?_) (fun cdv A outer s H vs Q E hr h => ?_)
  · obtain ⟨p, dx, l, ns, r, k, rfl, _⟩ := h
    rfl
  · obtain ⟨p, dx, l, ns, r, k, rfl, hp, hl, nd, n1, rk, k0, k8, go⟩ := h
    refine ⟨_, (pss_cons (ps_fld (pv 0) (pe_callTy call_list_of (by rfl) T.list (by decide +kernel) (pa_cons (pv 1) pa_nil)) rfl)
      (pss_cons (ps_fld (pv 0) (pe_lst (pa_cons pe_int pa_nil)) rfl)
      (pss_cons (ps_for PassesOwn.never rfl (pi_list (pe_fld (pv 0) rfl)) (pg_name (i := 3) scFInit.nd rfl (Or.inl rfl)) (pss_one (ps_expr (pe_bm PySem.F.plainAttrs_list PySem.F.slot_list_append PySem.F.type_list_append mt_append (pe_fld (pv 0) rfl) (pa_cons (pe_op op_mulW (pe_ix ix_list (pe_fld (pv 0) rfl) (pe_un un_neg pe_int) (fun _ _ => rfl)) (pv 2)) pa_nil)))))
      (pss_one (ps_fld (pv 0) (pe_dc (own := [("name", 4), ("at", 5)]) (g := (gTup K 2 (gCons (gName 5) (gCons (gName 4) gNil)))) (tt := tYes) (tk := (tVar 4)) (tv := (tVar 5)) rfl scFInit.nd (pi_enum (by rfl) T.enum (pa_cons (pe_fld (pv 0) rfl) pa_nil)) (blkOk_by (own := [("name", 4), ("at", 5)]) (N := ["self", "names", "radix", "_", "name", "at"]) (sc := defScope sFInit) (by decide +kernel)) (fun _ _ _ _ _ => (pg_tup rfl (pgs_cons (pg_name (i := 5) scFInit.nd rfl (Or.inl rfl)) (pgs_cons (pg_name (i := 4) scFInit.nd rfl (Or.inl rfl)) pgs_nil)))) (fun _ _ _ _ _ => pts_nil) (fun _ _ _ _ _ => (pv 4)) (fun _ _ _ _ _ => (pv 5))) rfl))))), ?_⟩
    refine ⟨_, rfl, l, _, rfl, .inl hl, fun l1 n1' => ⟨_, rfl, p, C, dx, _, rfl, same_new n1' _ _ hp, T.cl, T.nN, (by show 0 < 1000; decide), ?_⟩⟩
    rw [put1]
    have pl1 : p ≠ l1 := ne_of_none hp n1'
    have e1 : upd (upd H l1 (.lst (ns.map V.str))) p (.ins C dx [("names", .ref l1)]) l1 = some (.lst (ns.map V.str)) := (upd_ne (Ne.symm pl1)).trans upd_same
    have e2 : upd (upd H l1 (.lst (ns.map V.str))) p (.ins C dx [("names", .ref l1)]) p = some (.ins C dx [("names", .ref l1)]) := upd_same
    have o1 : ∀ b o, H b = some o → b ≠ p → upd (upd H l1 (.lst (ns.map V.str))) p (.ins C dx [("names", .ref l1)]) b = some o := fun b o q ne => (upd_ne ne).trans (same_new n1' _ _ q)
    generalize upd (upd H l1 (.lst (ns.map V.str))) p (.ins C dx [("names", .ref l1)]) = H1 at e1 e2 o1 ⊢
    refine ⟨by show 1 ≤ sizeLine; decide, fun l2 n2 => ⟨_, rfl, p, C, dx, _, rfl, same_new n2 _ _ e2, T.cl, T.nW, (by show 1 < 1000; decide), ?_⟩⟩
    rw [put2]
    have pl2 : p ≠ l2 := ne_of_none e2 n2
    have l12 : l1 ≠ l2 := ne_of_none e1 n2
    have f1 : upd (upd H1 l2 (.lst [.int 1])) p (.ins C dx [("names", .ref l1), ("weights", .ref l2)]) l1 = some (.lst (ns.map V.str)) := (upd_ne (Ne.symm pl1)).trans ((upd_ne l12).trans e1)
    have f2 : upd (upd H1 l2 (.lst [.int 1])) p (.ins C dx [("names", .ref l1), ("weights", .ref l2)]) l2 = some (.lst (wts r 0)) := (upd_ne (Ne.symm pl2)).trans upd_same
    have f3 : upd (upd H1 l2 (.lst [.int 1])) p (.ins C dx [("names", .ref l1), ("weights", .ref l2)]) p = some (.ins C dx [("names", .ref l1), ("weights", .ref l2)]) := upd_same
    have o2 : ∀ b o, H b = some o → b ≠ p → upd (upd H1 l2 (.lst [.int 1])) p (.ins C dx [("names", .ref l1), ("weights", .ref l2)]) b = some o := fun b o q ne => (upd_ne ne).trans (same_new n2 _ _ (o1 b o q ne))
    have no2 : ∀ b o, H b = some o → b ≠ p → b ≠ l2 := fun b o q ne z => by rw [← z, o1 b o q ne] at n2; cases n2
    generalize upd (upd H1 l2 (.lst [.int 1])) p (.ins C dx [("names", .ref l1), ("weights", .ref l2)]) = H2 at f1 f2 f3 o2 ⊢
    refine ⟨_, rfl, p, C, dx, _, _, rfl, f3, T.cl, T.nN, f_names, l1, rfl, ⟨_, SqL.of f1⟩, ?_⟩
    refine for_it (walk_list (K := K) (a := l1) (xs := ns.map V.str)) (fun i σ G => ∃ u3 : Option V, σ = [some (.ref p), some (.ref l), some (.int (r : Int)), u3, none, none] ∧ Oth l2 H2 G ∧ G l2 = some (.lst (wts r i)))
      ⟨_, rfl, Oth.refl, f2⟩ (fun i σ G _ ⟨_, _, o, _⟩ => SqL.of (o _ _ l12 f1)) (fun i x σ G G' hi ⟨u3, hσ, o, hw⟩ ⟨e, hv⟩ => ?_) (fun σ G ⟨u3, hσ, o, hw⟩ => ?_)
    · subst hσ e
      have hp2 := o _ _ pl2 f3
      rw [List.length_map] at hi
      have ki : k * i + 1 + k ≤ 1000000 := by
        have : k * i ≤ 800 * 1000 := Nat.mul_le_mul k8 (by omega)
        omega
      refine ⟨_, rfl, p, C, dx, _, _, rfl, hp2, T.cl, T.nW, f_weights, .inl ⟨rfl, _, SqL.of hw⟩, ?_⟩
      refine ⟨_, rfl, p, C, dx, _, _, rfl, hp2, T.cl, T.nW, f_weights, _, rfl, l2, _, _, _, rfl, rfl, SqL.of hw, wts_last r i, _, rfl, _, _, rfl, rfl, wide_mul (pow_bits rk) (by rw [Int.natAbs_natCast]; exact rk) (by omega) k0 ki, ?_⟩
      refine ⟨l2, _, _, rfl, rfl, hw, by rw [wts_len, sizeLine_eq]; omega, ?_⟩
      refine ⟨_, rfl, o.trans Oth.put, ?_⟩
      rw [upd_same, wts_succ]
      congr 3
    · subst hσ
      rw [List.length_map] at hw
      have hp2 := o _ _ pl2 f3
      have hn2 := o _ _ l12 f1
      refine ⟨_, rfl, p, C, dx, _, _, rfl, hp2, T.cl, T.nN, f_names, l1, _, rfl, SqL.of hn2, fun D nD => ?_⟩
      have w0 := walk_enum (K := K) (a := l1) (xs := ns.map V.str)
      refine blk_n (o := fun D => .dK []) (n := (ns.map V.str).length) (fun (i : Nat) (F : Hp) => Same G F ∧ F D = some (.dK (mpT eS (plT (ns.take i)))))
        ⟨same_new nD, upd_same⟩ (fun i F hi ⟨s, _⟩ => w0.goes i F hi (SqL.of (s _ _ hn2))) (fun F ⟨s, _⟩ => w0.stops F (SqL.of (s _ _ hn2))) (fun i F x F' hi ⟨s, hD⟩ hy => ?_) (fun F ⟨s, hD⟩ => ?_)
      · obtain ⟨t, x1, x2, rfl, nt, rfl, ex, hx⟩ := w0.yields i F x F' hi (SqL.of (s _ _ hn2)) hy
        cases ex
        have hx : (ns.map V.str)[i]? = some x2 := hx
        rw [List.getElem?_map] at hx
        obtain ⟨nm, hnm, rfl⟩ := Option.map_eq_some_iff.mp hx
        have st : Same F (upd F t (.tup [.int (i : Nat), .str nm])) := same_new nt
        have ht : upd F t (.tup [.int (i : Nat), .str nm]) t = some (.tup [.int (i : Nat), .str nm]) := upd_same
        generalize upd F t (.tup [.int (i : Nat), .str nm]) = F2 at st ht ⊢
        have hl2 : i < ns.length := (List.getElem?_eq_some_iff.mp hnm).1
        have hD2 := st _ _ hD
        refine ⟨t, _, rfl, SqT.of ht, rfl, _, _, rfl, _, _, rfl, rfl, rfl, _, rfl, _, rfl, _, eS nm, rfl, hD2, by rw [len_mpT, plT_len, List.length_take, sizeLine_eq]; omega, fun b o q => (upd_ne (ne_of_none q nD)).trans (st _ _ (s b o q)), ?_⟩
        rw [upd_same, putK_mpT eS_inj, putS_new, take_snoc hnm, plT_snoc, List.length_take, Nat.min_eq_left (by omega)]
        rw [plT_keys]
        intro q
        obtain ⟨j, hj⟩ := List.mem_iff_getElem?.mp q
        rw [List.getElem?_take] at hj
        split at hj
        · rename_i lj
          have := (List.getElem?_inj (List.getElem?_eq_some_iff.mp hj).1 nd).mp (hj.trans hnm.symm)
          omega
        · cases hj
      · rw [List.length_map, List.take_length] at hD
        refine ⟨_, rfl, p, C, dx, _, rfl, s _ _ hp2, T.cl, T.nP, (by show 2 < 1000; decide), ?_⟩
        rw [put3]
        have Dp : D ≠ p := fun z => by rw [z, hp2] at nD; cases nD
        refine go _ ⟨⟨dx, l1, l2, D, upd_same, (upd_ne (Ne.symm pl1)).trans (s _ _ hn2), (upd_ne (Ne.symm pl2)).trans (s _ _ hw), (upd_ne Dp).trans hD⟩, nd, n1, Nat.lt_of_lt_of_le rk (Nat.pow_le_pow_right (by decide) k8)⟩ fun b ob q ne => (upd_ne ne).trans (s _ _ (o _ _ (no2 b ob q ne) (o2 b ob q ne)))
end
/-! ### key of one unknown -/
abbrev sKey : Stmt := inClass (top 8) 2
theorem fF_key {l1 l2 l3 : Addr} : (fF l1 l2 l3).lookup ("key" : Str) = none := by
  have h : (("key" : Str) == "names") = false := by decide +kernel
  have h2 : (("key" : Str) == "weights") = false := by decide +kernel
  have h3 : (("key" : Str) == "places") = false := by decide +kernel
  simp [fF, List.lookup, h, h2, h3]
def spKey1 (C : Addr) : Sp := fun vs H Q _ => ∃ (f a b : Addr) (ns : List Str) (r i : Nat) (x : Str), vs = [.ref f, .ref a] ∧ FieldsAt C H f ns r ∧ H a = some (.tup [.ref b]) ∧ H b = some (.tup [.str x, .int 1]) ∧ ns[i]? = some x ∧
  ∀ (G : Hp), Same H G → Q (.int ((r ^ i : Nat) : Int)) G
section
variable {P : Program} {w : World} {K : PySem.W.Frag} {mg : Str → Option Value} {base : Heap} {C : Addr}
theorem scKey : FnScope ["self", "monomial", "name", "exponent"] ["self", "monomial"] (defScope sKey) := ⟨rfl, rfl, rfl, by decide +kernel, rfl, by decide +kernel, by decide +kernel⟩
theorem ok_key1 {f : Addr} {fd : FuncData} (F : Fun K "key" "Fields.key" sKey f fd) (T : FldTxt K mg C) : FnOk P w K mg base CX0 1 f fd ["self", "monomial"] (spKey1 C) := by
  refine F.ok scKey (fun vs H Q E h => ?_) (fun cdv A outer s H vs Q E hr h => ?_)
  · obtain ⟨f, a, b, ns, r, i, x, rfl, _⟩ := h
    rfl
  · obtain ⟨p, a, b, ns, r, j, x, rfl, ⟨⟨dx, l1, l2, l3, h0, h1, h2, h3⟩, nd, n1, rk⟩, ha, hb, hj, go⟩ := h
    refine ⟨_, (pss_one (ps_ret (pe_callB (cr_sum rfl) (by rfl) T.sum (by decide +kernel) (pa_cons (pe_lc (own := [("name", 2), ("exponent", 3)]) (g := (gTup K 2 (gCons (gName 2) (gCons (gName 3) gNil)))) (tt := tYes) (te := (tOp (rI CMulW fun i j => .int (i * j)) (tVar 3) (tOp (rIxL K) (tFld K (tVar 0) "weights") (tDGet (tFld K (tVar 0) "places") (tVar 2))))) rfl scKey.nd (pi_tup (pv 1)) (blkOk_by (own := [("name", 2), ("exponent", 3)]) (N := ["self", "monomial", "name", "exponent"]) (sc := defScope sKey) (by decide +kernel)) (fun _ _ _ _ _ => (pg_tup rfl (pgs_cons (pg_name (i := 2) scKey.nd rfl (Or.inl rfl)) (pgs_cons (pg_name (i := 3) scKey.nd rfl (Or.inl rfl)) pgs_nil)))) (fun _ _ _ _ _ => pts_nil) (fun _ _ _ _ _ => (pe_op op_mulW (pv 3) (pe_ix ix_list (pe_fld (pv 0) rfl) (pe_dget (hu1 hr) (pe_fld (pv 0) rfl) (pv 2) (fun _ _ => rfl)) (fun _ _ => rfl))))) pa_nil)))), ?_⟩
    have jl : j < ns.length := (List.getElem?_eq_some_iff.mp hj).1
    refine ⟨_, rfl, a, rfl, ⟨_, SqT.of ha⟩, fun D nD => ?_⟩
    refine lc_it (walk_tup (K := K) (a := a) (xs := [V.ref b])) (fun i G => Same H G ∧ G D = some (.lst (if i = 0 then [] else [V.int ((r ^ j : Nat) : Int)]))) ⟨same_new nD, upd_same⟩ (fun i G _ h => SqT.of (h.1 _ _ ha)) (fun i y G G' hi ⟨sG, hD⟩ ⟨e, hv⟩ => ?_) (fun G ⟨sG, hD⟩ => ?_)
    · subst e
      have i0 : i = 0 := by
        have : i < 1 := hi
        omega
      subst i0
      cases hv
      have gd := DGet.k (k := eS x) (sG _ _ h3)
      have ev : valV (mpT eS (plT ns)) (eS x) = some (.int (j : Int)) := by rw [valV_mpT eS_inj, plT_at nd hj]; rfl
      rw [ev] at gd
      refine ⟨b, _, rfl, SqT.of (sG _ _ hb), rfl, _, _, rfl, _, _, rfl, rfl, rfl, _, rfl, ?_⟩
      refine ⟨_, rfl, p, C, dx, _, _, rfl, sG _ _ h0, T.cl, T.nW, f_weights, _, rfl, p, C, dx, _, _, rfl, sG _ _ h0, T.cl, T.nP, f_places, _, rfl, l3, _, rfl, gd, ?_⟩
      refine ⟨l2, _, _, _, rfl, rfl, SqL.of (sG _ _ h2), atI_nat (wts_at (Nat.le_of_lt jl)), _, _, rfl, rfl, wide_mul (a := 64) (by decide) (pow_bits rk) (by decide) (by omega) (by omega), ?_⟩
      refine ⟨_, hD, by rw [sizeLine_eq]; show 0 < _; omega, fun x o q => (upd_ne (ne_of_none q nD)).trans (sG _ _ q), ?_⟩
      rw [upd_same]
      show some (HO.lst [V.int (1 * ((r ^ j : Nat) : Int))]) = some (HO.lst [V.int ((r ^ j : Nat) : Int)])
      rw [Int.one_mul]
    · refine ⟨D, [((r ^ j : Nat) : Int)], rfl, SqL.of hD, ?_⟩
      have e0 : ([((r ^ j : Nat) : Int)] : List Int).sum = ((r ^ j : Nat) : Int) := by simp
      rw [e0]
      exact go G sG
end
end K2P

set_option Elab.async false
set_option linter.all false
set_option maxRecDepth 100000
set_option maxHeartbeats 4000000
set_option autoImplicit false
/-! Texts of steps and claims: what is told of words, names and integers; no program here. -/
namespace K4
open PySem L2 TL
def lets : List Nat := tl ("abcdefghijklmnopqrstuvwxyz" : Str)
def figs : List Nat := tl ("0123456789" : Str)
theorem figs_iff (c : Nat) : c ∈ figs ↔ 48 ≤ c ∧ c ≤ 57 := by
  have e : figs = [48, 49, 50, 51, 52, 53, 54, 55, 56, 57] := by decide +kernel
  rw [e]
  simp only [List.mem_cons, List.not_mem_nil, or_false]
  omega
theorem lets_iff (c : Nat) : c ∈ lets ↔ 97 ≤ c ∧ c ≤ 122 := by
  have e : lets = [97, 98, 99, 100, 101, 102, 103, 104, 105, 106, 107, 108, 109, 110, 111, 112, 113, 114, 115, 116, 117, 118, 119, 120, 121, 122] := by decide +kernel
  rw [e]
  simp only [List.mem_cons, List.not_mem_nil, or_false]
  omega
theorem len_tl (x : Str) : (tl x).length = x.length := Array.length_toList
/-- a word of one to four small letters -/
def isNm (x : Str) : Bool := (decide (1 ≤ (tl x).length) && decide ((tl x).length ≤ 4)) && (tl x).all fun c => decide (c ∈ lets)
/-- one to nine figures, no nought ahead -/
def isFg (l : List Nat) : Bool := ((decide (1 ≤ l.length) && decide (l.length ≤ 9)) && l.all fun c => decide (c ∈ figs)) && decide (l.head? ≠ some 48)
def body (l : List Nat) : List Nat := if l.head? = some 45 then l.drop 1 else l
def okI (x : Str) : Bool := decide (tl x = [48]) || isFg (body (tl x))
def valI (x : Str) : Int := (PySem.intText? x).getD 0
theorem isFg_all {l : List Nat} (h : isFg l = true) : NumText.AllDigits l ∧ l ≠ [] ∧ l.length ≤ 9 ∧ l.head? ≠ some 48 := by
  unfold isFg at h
  simp only [Bool.and_eq_true, decide_eq_true_eq, List.all_eq_true] at h
  obtain ⟨⟨⟨h1, h2⟩, h3⟩, h4⟩ := h
  exact ⟨fun c hc => (figs_iff c).mp (h3 c hc), fun z => by rw [z] at h1; simp at h1, h2, h4⟩
theorem num_reads_pos {x : Str} (h : NumText.AllDigits (tl x)) (h1 : tl x ≠ []) (h2 : (tl x).length ≤ 9) : ∃ n, PySem.intText? x = some n := ⟨_, intText_digits h h1 (by rw [← len_tl]; omega)⟩
theorem okI_int {x : Str} (h : okI x = true) : PySem.intText? x = some (valI x) ∧ x.length ≤ 10 := by
  have fin : (∃ n, PySem.intText? x = some n) → PySem.intText? x = some (valI x) := fun ⟨n, e⟩ => by unfold valI; rw [e]; rfl
  unfold okI at h
  rw [Bool.or_eq_true] at h
  rcases h with h | h
  · have e := of_decide_eq_true h
    refine ⟨fin (num_reads_pos ?_ (by rw [e]; simp) (by rw [e]; simp)), by rw [← len_tl, e]; simp⟩
    rw [e]
    intro c hc
    rw [List.mem_singleton.mp hc]
    omega
  · obtain ⟨g1, g2, g3, g4⟩ := isFg_all h
    unfold body at g1 g2 g3
    split at g1
    · rename_i q
      rw [if_pos q] at g2 g3
      have e : tl x = 45 :: (tl x).drop 1 := by
        cases ex : tl x with
        | nil => rw [ex] at q; cases q
        | cons a r =>
          rw [ex] at q
          cases q
          rfl
      have lx : x.length = (tl x).length := (len_tl x).symm
      have ll : (tl x).length = ((tl x).drop 1).length + 1 := by
        have := congrArg List.length e
        rw [List.length_cons] at this
        exact this
      exact ⟨fin ⟨_, intText_neg e g1 g2 (by omega)⟩, by omega⟩
    · rename_i q
      rw [if_neg q] at g2 g3
      exact ⟨fin (num_reads_pos g1 g2 g3), by rw [← len_tl]; omega⟩
/-! ### numbers and their texts -/
theorem tl_negnum (n : Nat) : tl (Str.ofString (toString (-((n + 1 : Nat) : Int)))) = 45 :: numL (n + 1) := by
  rw [tl_ofString, show (-((n + 1 : Nat) : Int)) = Int.negSucc n from rfl]
  rw [show toString (Int.negSucc n) = "-" ++ toString (n + 1) from rfl, String.toList_append]
  rw [List.map_append]
  show [45] ++ _ = _
  have := tl_num (n + 1)
  rw [tl_ofString] at this
  exact congrArg ([45] ++ ·) this
theorem numL_head {n : Nat} (h : 0 < n) : (numL n).head? ≠ some 48 := by
  induction n using Nat.strongRecOn with
  | _ n ih =>
    by_cases h9 : n < 10
    · rw [numL_lt h9]
      simp
      omega
    · rw [numL_step (by omega)]
      have := ih (n / 10) (by omega) (by omega)
      cases e : numL (n / 10) with
      | nil => exact absurd e (numL_ne _)
      | cons a r =>
        rw [e] at this
        exact this
theorem isFg_num {n : Nat} (h : 0 < n) (h9 : n < 10 ^ 9) : isFg (numL n) = true := by
  unfold isFg
  simp only [Bool.and_eq_true, decide_eq_true_eq, List.all_eq_true]
  refine ⟨⟨⟨?_, numL_len (by decide) h9⟩, fun c hc => (figs_iff c).mpr (numL_digits n c hc)⟩, numL_head h⟩
  cases e : numL n with
  | nil => exact absurd e (numL_ne n)
  | cons a r => simp
theorem okI_num {i : Int} (h : -(10 ^ 9) < i) (h9 : i < 10 ^ 9) : okI (Str.ofString (toString i)) = true ∧ valI (Str.ofString (toString i)) = i ∧ (tl (Str.ofString (toString i))).length ≤ 10 ∧ 32 ∉ tl (Str.ofString (toString i)) := by
  by_cases z : 0 ≤ i
  · obtain ⟨n, rfl⟩ := Int.eq_ofNat_of_zero_le z
    have h10 : n < 10 ^ 9 := by omega
    have hl : (numL n).length ≤ 9 := numL_len (by decide) h10
    refine ⟨?_, ?_, by rw [tl_num]; omega, by rw [tl_num]; exact numL_free (by omega)⟩
    · unfold okI
      rw [tl_num, Bool.or_eq_true]
      by_cases n0 : n = 0
      · subst n0
        exact .inl (by decide)
      · refine .inr ?_
        unfold body
        rw [if_neg, isFg_num (by omega) h10]
        intro q
        have : 45 ∈ numL n := by
          cases e : numL n with
          | nil => rw [e] at q; cases q
          | cons a r => rw [e] at q; cases q; exact List.mem_cons_self
        exact numL_free (by omega) this
    · unfold valI
      have e := intText_digits (x := Str.ofString (toString (n : Int))) (show NumText.AllDigits (tl _) by rw [tl_num]; exact numL_digits n) (show tl _ ≠ [] by rw [tl_num]; exact numL_ne n) (by rw [← len_tl, tl_num]; omega)
      rw [e]
      show ((NumText.digitsVal (tl _) : Nat) : Int) = _
      rw [tl_num, numL_val]
  · obtain ⟨n, rfl⟩ : ∃ n : Nat, i = -((n + 1 : Nat) : Int) := ⟨(-i).toNat - 1, by omega⟩
    have h10 : n + 1 < 10 ^ 9 := by omega
    have hl : (numL (n + 1)).length ≤ 9 := numL_len (by decide) h10
    refine ⟨?_, ?_, by rw [tl_negnum, List.length_cons]; omega, ?_⟩
    · unfold okI
      rw [tl_negnum, Bool.or_eq_true]
      refine .inr ?_
      rw [show body (45 :: numL (n + 1)) = numL (n + 1) from if_pos rfl]
      exact isFg_num (by omega) h10
    · unfold valI
      rw [intText_neg (tl_negnum n) (numL_digits _) (numL_ne _) (by rw [← len_tl, tl_negnum, List.length_cons]; omega), numL_val]
      rfl
    · rw [tl_negnum]
      intro q
      rcases List.mem_cons.mp q with q | q
      · cases q
      · exact numL_free (by omega) q
theorem isNm_free {x : Str} (h : isNm x = true) : 32 ∉ tl x ∧ (tl x).length ≤ 4 ∧ 1 ≤ (tl x).length := by
  unfold isNm at h
  simp only [Bool.and_eq_true, decide_eq_true_eq, List.all_eq_true] at h
  obtain ⟨⟨h1, h2⟩, h3⟩ := h
  refine ⟨fun q => ?_, h2, h1⟩
  have := (lets_iff 32).mp (h3 32 q)
  omega
/-! ### the forms -/
abbrev Sh := Str × Nat × Nat
def shC : List Sh := [("same", 2, 0), ("on_line", 3, 0), ("parallel", 4, 0), ("perpendicular", 4, 0), ("equal_length", 4, 0), ("equal_area", 6, 0), ("on_circle", 4, 0), ("one_meet", 6, 0)]
def shS : List Sh := [("free", 1, 0), ("slide", 3, 0), ("part", 3, 2), ("shift", 4, 0), ("turn", 4, 0), ("over", 3, 0), ("mirror", 4, 0), ("foot", 4, 0), ("meet", 5, 0), ("second", 4, 0), ("centre", 4, 0)]
def shL (b : Bool) : List Sh := if b = true then shS else shC
def shapeIn (l : List Sh) (z : Str) : Option (Nat × Nat) := (l.find? fun e => decide (e.1 = z)).map (·.2)
def shapeOf (b : Bool) (z : Str) : Option (Nat × Nat) := shapeIn (shL b) z
theorem shapeIn_mem {l : List Sh} {z : Str} {r : Nat × Nat} (h : shapeIn l z = some r) : (z, r) ∈ l := by
  unfold shapeIn at h
  cases e : l.find? fun e => decide (e.1 = z) with
  | none => rw [e] at h; cases h
  | some p =>
    rw [e] at h
    have h1 := List.find?_some e
    have h2 := List.mem_of_find?_eq_some e
    have e3 : p.1 = z := of_decide_eq_true h1
    cases h
    rw [← e3]
    exact h2
theorem shape_facts : ∀ b : Bool, ∀ e ∈ shL b, shapeOf b e.1 = some e.2 ∧ shapeOf (!b) e.1 = none ∧ 32 ∉ tl e.1 ∧ (tl e.1).length ≤ 13 ∧ 1 ≤ e.2.1 ∧ e.2.1 ≤ 6 ∧ e.2.2 ≤ 2 := by
  decide +kernel
theorem shape_lim {b : Bool} {z : Str} {n k : Nat} (h : shapeOf b z = some (n, k)) : 1 ≤ n ∧ n ≤ 6 ∧ k ≤ 2 := by
  have := shape_facts b _ (shapeIn_mem h)
  exact ⟨this.2.2.2.2.1, this.2.2.2.2.2⟩
/-- what words tell by a form -/
def formed (sh : Str → Option (Nat × Nat)) : List Str → Option (List V)
  | [] => none
  | z :: r => match sh z with
    | none => none
    | some (n, k) => if r.length = n + k ∧ ((r.take n).all isNm = true ∧ (r.drop n).all okI = true) then some (.str z :: ((r.take n).map V.str ++ (r.drop n).map fun x => V.int (valI x))) else none
theorem formed_some {sh : Str → Option (Nat × Nat)} {z : Str} {n k : Nat} (h : sh z = some (n, k)) (r : List Str) : formed sh (z :: r) = if r.length = n + k ∧ ((r.take n).all isNm = true ∧ (r.drop n).all okI = true) then some (.str z :: ((r.take n).map V.str ++ (r.drop n).map fun x => V.int (valI x))) else none := by
  show (match sh z with
    | none => none
    | some (n, k) => _) = _
  rw [h]
theorem formed_none {sh : Str → Option (Nat × Nat)} {z : Str} (h : sh z = none) (r : List Str) : formed sh (z :: r) = none := by
  show (match sh z with
    | none => none
    | some (n, k) => _) = _
  rw [h]
def due (b : Bool) (x : Str) : Option (List V) := formed (shapeOf b) (Txt.split x " ")
theorem split_ne (x : Str) : ∃ z r, Txt.split x " " = z :: r := by
  unfold Txt.split
  split
  · exact ⟨_, _, rfl⟩
  · split
    · exact ⟨_, _, rfl⟩
    · rw [StrLaws.partsBetween_eq]
      exact StrLaws.partsFrom_ne _ _ _ _
theorem joinL_len (s : List Nat) : ∀ ps : List (List Nat), ps ≠ [] → (joinL s ps).length = (ps.map List.length).sum + (ps.length - 1) * s.length
  | [], h => absurd rfl h
  | [p], _ => by simp [joinL]
  | p :: q :: r, _ => by
    have ih := joinL_len s (q :: r) (by simp)
    show (p ++ (s ++ joinL s (q :: r))).length = _
    rw [List.length_append, List.length_append, ih]
    simp only [List.map_cons, List.sum_cons, List.length_cons]
    have e : (r.length + 1 + 1 - 1) * s.length = s.length + (r.length + 1 - 1) * s.length := by
      rw [show r.length + 1 + 1 - 1 = (r.length + 1 - 1) + 1 by omega, Nat.succ_mul]
      omega
    omega
theorem sum_le_one {x : Nat} : ∀ {l : List Nat}, x ∈ l → x ≤ l.sum
  | [], h => by cases h
  | a :: l, h => by
    rcases List.mem_cons.mp h with e | h
    · rw [e, List.sum_cons]; omega
    · have := sum_le_one h
      rw [List.sum_cons]; omega
/-- the words of a text: not more than its signs and one; all together not longer -/
theorem split_len (x : Str) : (Txt.split x " ").length ≤ x.length + 1 ∧ ((Txt.split x " ").map (·.length)).sum ≤ x.length ∧ ∀ z ∈ Txt.split x " ", z.length ≤ x.length := by
  have e : tl (Str.join " " (Txt.split x " ")) = tl x := congrArg tl (StrLaws.join_split x " ")
  rw [tl_join] at e
  have l := congrArg List.length e
  obtain ⟨z, r, ez⟩ := split_ne x
  rw [joinL_len _ _ (by rw [ez]; simp), len_tl, List.map_map, List.length_map] at l
  have s1 : ((" " : Str)).length = 1 := by decide +kernel
  rw [s1] at l
  have e2 : (Txt.split x " ").map (List.length ∘ tl) = (Txt.split x " ").map (·.length) := List.map_congr_left fun y _ => len_tl y
  rw [e2] at l
  have n0 : (Txt.split x " ").length = r.length + 1 := by rw [ez, List.length_cons]
  have lx := len_tl x
  refine ⟨by omega, by omega, fun y hy => ?_⟩
  have := sum_le_one (List.mem_map.mpr ⟨y, hy, rfl⟩ : y.length ∈ (Txt.split x " ").map (·.length))
  omega
/-- the text of words without blanks, split -/
theorem split_of {ws : List Str} (h : ws ≠ []) (f : ∀ z ∈ ws, 32 ∉ tl z) : Txt.split (Txt.join " " ws) " " = ws :=
  split_join (y := " ") (s := 32) (S := []) (by decide +kernel) (by decide +kernel) h f
/-- a step, a claim: the word, names, integers -/
structure Thing (b : Bool) (z : Str) (ns : List Str) (is : List Int) : Prop where
  sh : shapeOf b z = some (ns.length, is.length)
  nm : ∀ x ∈ ns, isNm x = true
  im : ∀ i ∈ is, -(10 ^ 9) < i ∧ i < 10 ^ 9
def words (z : Str) (ns : List Str) (is : List Int) : List Str := z :: (ns ++ is.map fun i => Str.ofString (toString i))
def vals (z : Str) (ns : List Str) (is : List Int) : List V := .str z :: (ns.map V.str ++ is.map V.int)
theorem Thing.free {b : Bool} {z : Str} {ns : List Str} {is : List Int} (T : Thing b z ns is) : ∀ y ∈ words z ns is, 32 ∉ tl y ∧ (tl y).length ≤ 13 := by
  intro y hy
  have f := shape_facts b _ (shapeIn_mem T.sh)
  rcases List.mem_cons.mp hy with e | hy
  · rw [e]; exact ⟨f.2.2.1, f.2.2.2.1⟩
  · rcases List.mem_append.mp hy with hy | hy
    · have := isNm_free (T.nm y hy)
      exact ⟨this.1, by omega⟩
    · obtain ⟨i, hi, rfl⟩ := List.mem_map.mp hy
      have := okI_num (T.im i hi).1 (T.im i hi).2
      exact ⟨this.2.2.2, by have := this.2.2.1; omega⟩
theorem Thing.split {b : Bool} {z : Str} {ns : List Str} {is : List Int} (T : Thing b z ns is) : Txt.split (Txt.join " " (words z ns is)) " " = words z ns is :=
  split_of (by unfold words; simp) fun y hy => (T.free y hy).1
theorem Thing.due {b : Bool} {z : Str} {ns : List Str} {is : List Int} (T : Thing b z ns is) : due b (Txt.join " " (words z ns is)) = some (vals z ns is) := by
  unfold K4.due
  rw [T.split]
  unfold words
  rw [formed_some T.sh]
  have e1 : (ns ++ is.map fun i => Str.ofString (toString i)).take ns.length = ns := by simp
  have e2 : (ns ++ is.map fun i => Str.ofString (toString i)).drop ns.length = is.map fun i => Str.ofString (toString i) := by simp
  rw [e1, e2, if_pos]
  · unfold vals
    rw [List.map_map]
    congr 3
    exact List.map_congr_left fun i hi => congrArg V.int (okI_num (T.im i hi).1 (T.im i hi).2).2.1
  · refine ⟨by simp, List.all_eq_true.mpr T.nm, List.all_eq_true.mpr fun y hy => ?_⟩
    obtain ⟨i, hi, rfl⟩ := List.mem_map.mp hy
    exact (okI_num (T.im i hi).1 (T.im i hi).2).1
theorem Thing.other {b : Bool} {z : Str} {ns : List Str} {is : List Int} (T : Thing b z ns is) : K4.due (!b) (Txt.join " " (words z ns is)) = none := by
  unfold K4.due
  rw [T.split]
  unfold words
  exact formed_none (shape_facts b _ (shapeIn_mem T.sh)).2.1 _
theorem sum_le_mul {c : Nat} : ∀ {l : List Nat}, (∀ x ∈ l, x ≤ c) → l.sum ≤ l.length * c
  | [], _ => by simp
  | a :: l, h => by
    have := sum_le_mul (l := l) fun x hx => h x (List.mem_cons_of_mem _ hx)
    have := h a List.mem_cons_self
    rw [List.sum_cons, List.length_cons, Nat.succ_mul]
    omega
theorem Thing.size {b : Bool} {z : Str} {ns : List Str} {is : List Int} (T : Thing b z ns is) : (words z ns is).length ≤ 9 ∧ ((words z ns is).map (·.length)).sum ≤ 117 := by
  have l := shape_lim T.sh
  have h1 : (words z ns is).length ≤ 9 := by
    unfold words
    simp only [List.length_cons, List.length_append, List.length_map]
    omega
  refine ⟨h1, Nat.le_trans (sum_le_mul (c := 13) fun x hx => ?_) ?_⟩
  · obtain ⟨y, hy, rfl⟩ := List.mem_map.mp hx
    rw [← len_tl]
    exact (T.free y hy).2
  · rw [List.length_map]
    omega
theorem join_len (ws : List Str) : (Txt.join " " ws).length ≤ (ws.map (·.length)).sum + ws.length := by
  have := StrLaws.join_length_le " " ws
  rw [show ((" " : Str).length) = 1 from by decide +kernel, Nat.mul_one] at this
  rw [join_eq]
  exact this
theorem Thing.len {b : Bool} {z : Str} {ns : List Str} {is : List Int} (T : Thing b z ns is) : (Txt.join " " (words z ns is)).length ≤ 126 := by
  have := join_len (words z ns is)
  have := T.size
  omega
/-! ### the starts of texts -/
theorem tl_cut1 (x : Str) : tl (cutS x (some 1) none) = (tl x).drop 1 := by
  unfold cutS
  show List.take _ _ = _
  rw [show HT.sIx x.length 0 (some 1) = min 1 x.length from HT.sIx_nat _ _ 1, HT.sIx_none]
  rw [← len_tl]
  cases e : tl x with
  | nil => simp [e]
  | cons a r =>
    have : x.cps.toList = a :: r := e
    rw [this]
    simp
theorem tl_cut0 (x : Str) : tl (cutS x (some 0) none) = tl x := by
  unfold cutS
  show List.take _ _ = _
  rw [show HT.sIx x.length 0 (some 0) = min 0 x.length from HT.sIx_nat _ _ 0, HT.sIx_none, ← len_tl]
  simp only [Nat.zero_min, List.drop_zero, Nat.sub_zero]
  exact List.take_of_length_le (Nat.le_refl _)
theorem tl_cutTo1 (x : Str) : tl (cutS x none (some 1)) = (tl x).take 1 := by
  unfold cutS
  show List.take _ _ = _
  rw [show HT.sIx x.length x.length (some 1) = min 1 x.length from HT.sIx_nat _ _ 1, HT.sIx_none, ← len_tl]
  cases e : tl x with
  | nil => simp [e]
  | cons a r =>
    have : x.cps.toList = a :: r := e
    rw [this]
    simp
theorem head_take (l : List Nat) (c : Nat) : l.take 1 = [c] ↔ l.head? = some c := by
  cases l with
  | nil => simp
  | cons a r => simp
theorem starts_minus (x : Str) : Txt.startswith x "-" = decide ((tl x).head? = some 45) := by
  have e : Txt.startswith x "-" = true ↔ (tl x).head? = some 45 := by
    unfold Txt.startswith
    rw [StrLaws.subAt_eq, show (("-" : Str).length) = 1 from by decide +kernel, show ("-" : Str).cps.toList = [45] from by decide +kernel]
    show (decide (0 + 1 ≤ x.length) && ((tl x).drop 0).take 1 == [45]) = true ↔ _
    rw [List.drop_zero, Bool.and_eq_true, beq_iff_eq, head_take, decide_eq_true_eq]
    refine ⟨fun h => h.2, fun h => ⟨?_, h⟩⟩
    rw [← len_tl]
    cases q : tl x with
    | nil => rw [q] at h; cases h
    | cons a r => simp
  cases h : Txt.startswith x "-" with
  | true => exact (decide_eq_true (e.mp h)).symm
  | false =>
    refine (decide_eq_false fun q => ?_).symm
    rw [e.mpr q] at h
    cases h
end K4

set_option Elab.async false
set_option linter.all false
set_option maxRecDepth 100000
set_option maxHeartbeats 4000000
set_option autoImplicit false
set_option pp.maxSteps 300
/-! Kinds of what is handed in: integers, sequences, names. -/
namespace CN
open PySem L2 K1D K2P TL
open K4 (isNm lets)
theorem lenT (x : Str) : (TL.tl x).length = x.length := Array.length_toList
def isS : V → Bool | .str _ => true | _ => false
def isI : V → Bool | .int _ => true | _ => false
def isB : V → Bool | .bl _ => true | _ => false
/-- a plain value -/
inductive Pl (H : Hp) : V → Prop
  | non : Pl H .non
  | bl (b : Bool) : Pl H (.bl b)
  | int (i : Int) : Pl H (.int i)
  | str (x : Str) (h : x.length ≤ 1000000) : Pl H (.str x)
  | lst {a : Addr} {us : List V} (h : H a = some (.lst us)) : Pl H (.ref a)
  | tup {a : Addr} {us : List V} (h : H a = some (.tup us)) : Pl H (.ref a)
theorem Pl.up {H G : Hp} {v : V} (h : Pl H v) (s : Same H G) : Pl G v := by
  cases h with
  | non => exact .non
  | bl b => exact .bl b
  | int i => exact .int i
  | str x l => exact .str x l
  | lst h => exact .lst (s _ _ h)
  | tup h => exact .tup (s _ _ h)
theorem Pl.ty {K : PySem.W.Frag} {H : Hp} {v : V} (h : Pl H v) : ∃ T, TyOf K H v (.type T) ∧ kitB T "str" = some (isS v) ∧ kitB T "int" = some (isI v || isB v) ∧ kitB T "bool" = some (isB v) := by
  cases h with
  | non => exact ⟨_, .non, by decide +kernel, by decide +kernel, by decide +kernel⟩
  | bl b => exact ⟨_, .bl b, (by decide +kernel : kitB "bool" "str" = some false), (by decide +kernel : kitB "bool" "int" = some true), (by decide +kernel : kitB "bool" "bool" = some true)⟩
  | int i => exact ⟨_, .int i, (by decide +kernel : kitB "int" "str" = some false), (by decide +kernel : kitB "int" "int" = some true), (by decide +kernel : kitB "int" "bool" = some false)⟩
  | str x l => exact ⟨_, .str x, (by decide +kernel : kitB "str" "str" = some true), (by decide +kernel : kitB "str" "int" = some false), (by decide +kernel : kitB "str" "bool" = some false)⟩
  | lst h => exact ⟨_, .lst h, (by decide +kernel : kitB "list" "str" = some false), (by decide +kernel : kitB "list" "int" = some false), (by decide +kernel : kitB "list" "bool" = some false)⟩
  | tup h => exact ⟨_, .tup h, (by decide +kernel : kitB "tuple" "str" = some false), (by decide +kernel : kitB "tuple" "int" = some false), (by decide +kernel : kitB "tuple" "bool" = some false)⟩
/-- a list or a tuple with these items -/
def SeqV (H : Hp) (v : V) (us : List V) : Prop := ∃ a, v = .ref a ∧ (H a = some (.lst us) ∨ H a = some (.tup us))
theorem SeqV.up {H G : Hp} {v : V} {us : List V} (h : SeqV H v us) (s : Same H G) : SeqV G v us := by
  obtain ⟨a, e, h⟩ := h
  exact ⟨a, e, h.elim (fun h => .inl (s _ _ h)) fun h => .inr (s _ _ h)⟩
/-- neither list nor tuple -/
inductive NoSeq : V → Prop
  | non : NoSeq .non
  | bl (b : Bool) : NoSeq (.bl b)
  | int (i : Int) : NoSeq (.int i)
  | str (x : Str) : NoSeq (.str x)
theorem Pl.seq {H : Hp} {v : V} (h : Pl H v) : NoSeq v ∨ ∃ us, SeqV H v us := by
  cases h with
  | non => exact .inl .non
  | bl b => exact .inl (.bl b)
  | int i => exact .inl (.int i)
  | str x l => exact .inl (.str x)
  | lst h => exact .inr ⟨_, _, rfl, .inl h⟩
  | tup h => exact .inr ⟨_, _, rfl, .inr h⟩
theorem SeqV.sq {K : PySem.W.Frag} {H : Hp} {v : V} {us : List V} (h : SeqV H v us) : ∃ a, v = .ref a ∧ (SqL K H a us ∨ SqT K H a us) := by
  obtain ⟨a, e, h⟩ := h
  exact ⟨a, e, h.elim (fun h => .inl (SqL.of h)) fun h => .inr (SqT.of h)⟩
theorem SeqV.tru {K : PySem.W.Frag} {H : Hp} {v : V} {us : List V} (h : SeqV H v us) : TruV K v H (!us.isEmpty) := by
  obtain ⟨a, rfl, h⟩ := h
  exact h.elim (fun h => .inl ⟨us, SqL.of h, rfl⟩) fun h => .inr (.inl ⟨us, SqT.of h, rfl⟩)
/-- one of the items, by its place -/
theorem SeqV.ix {K : PySem.W.Frag} {H : Hp} {v u : V} {us : List V} {Q : VK} {k : Nat} (h : SeqV H v us) (hu : us[k]? = some u) (q : Q u H) : rIx K v (.int (k : Int)) H Q := by
  obtain ⟨a, rfl, h⟩ := h
  exact h.elim (fun h => .inl ⟨a, us, _, u, rfl, rfl, SqL.of h, atI_nat hu, q⟩) fun h => .inr (.inl ⟨a, us, _, u, rfl, rfl, SqT.of h, atI_nat hu, q⟩)
structure KindTxt (K : PySem.W.Frag) (mg : Str → Option Value) : Prop where
  isinst : mg "isinstance" = none
  str : mg "str" = none
  int : mg "int" = none
  bool : mg "bool" = none
  list : mg "list" = none
  tuple : mg "tuple" = none
  len : mg "len" = none
  all : mg "all" = none
  enum : mg "enumerate" = none
  lets : ∃ t, mg "LETTERS" = some (.str "abcdefghijklmnopqrstuvwxyz" t)
  four : ∃ t, mg "LONGEST_NAME" = some (.int 4 t)
abbrev sIsInt : Stmt := K2P.top 12
abbrev sIsSeq : Stmt := K2P.top 13
abbrev sIsName : Stmt := K2P.top 14
def tI (K : PySem.W.Frag) (i : Nat) (T : String) : TE := tCB (rIsi K) (tCons (tVar i) (tCons (tC (.ty T)) tNil))
theorem isi {K : PySem.W.Frag} {σ : L2.St} {H : Hp} {i : Nat} {a T : String} {x : V} {b : Bool} {R : VK} (hs : σ[i]? = some (some x)) (ty : TyOf K H x (.type a)) (k : kitB a T = some b) (go : R (.bl b) H) : tI K i T σ H R :=
  ⟨x, hs, x, .ty T, .type a, .type T, b, rfl, .ty T, .base ty, kit_ty k, go⟩
/-- the same, of any value -/
theorem isiV {K : PySem.W.Frag} {H : Hp} {a T : String} {x : V} {b : Bool} {R : VK} (ty : TyOf K H x (.type a)) (k : kitB a T = some b) (go : R (.bl b) H) : rIsi K [x, .ty T] H R :=
  ⟨x, .ty T, .type a, .type T, b, rfl, .ty T, .base ty, kit_ty k, go⟩
theorem kq {K : PySem.W.Frag} {a : String} {b1 b2 : Bool} (h1 : kitB a "list" = some b1) (h2 : kitB a "tuple" = some b2) : PySem.W.kitAny K (.type a) [.type "list", .type "tuple"] = some (b1 || b2) := by
  refine kitAny_cons (b := b1) (kit_ty h1) (fun e => kitAny_cons (b := b2) (kit_ty h2) (fun e2 => ?_) fun e2 => ?_) fun e => ?_
  · rw [e, e2]; rfl
  · rw [e2, Bool.or_true]
  · rw [e]; rfl
def spIsInt : Sp := fun vs H Q _ => ∃ x : V, vs = [x] ∧ Pl H x ∧ ∀ G, Same H G → Q (.bl (isI x)) G
def spIsSeq : Sp := fun vs H Q _ => ∃ (x : V) (b : Bool), vs = [x] ∧ ((∃ us, SeqV H x us) ∧ b = true ∨ NoSeq x ∧ b = false) ∧ ∀ G, Same H G → Q (.bl b) G
def nmV : V → Bool | .str x => isNm x | _ => false
def spIsName : Sp := fun vs H Q _ => ∃ x : V, vs = [x] ∧ Pl H x ∧ ∀ G, Same H G → Q (.bl (nmV x)) G
def rSign : R2 := fun x y H Q => ∃ (c : Nat) (z : Str), x = .str ⟨#[c]⟩ ∧ y = .str z ∧ Q (.bl (decide (c ∈ z.cps.toList))) H
theorem op_sign {X : Cx} : OpR X (compareOp .In) rSign := op_in_sign
section
variable {P : Program} {w : World} {K : PySem.W.Frag} {mg : Str → Option Value} {base : Heap}
theorem scIsInt : FnScope ["thing"] ["thing"] (defScope sIsInt) := ⟨rfl, rfl, rfl, by decide +kernel, rfl, by decide +kernel, by decide +kernel⟩
theorem scIsSeq : FnScope ["thing"] ["thing"] (defScope sIsSeq) := ⟨rfl, rfl, rfl, by decide +kernel, rfl, by decide +kernel, by decide +kernel⟩
theorem scIsName : FnScope ["thing", "sign"] ["thing"] (defScope sIsName) := ⟨rfl, rfl, rfl, by decide +kernel, rfl, by decide +kernel, by decide +kernel⟩
theorem ok_isint {f : Addr} {fd : FuncData} (F : Fun K "is_integer" "is_integer" sIsInt f fd) (T : KindTxt K mg) : FnOk P w K mg base CX0 1 f fd ["thing"] spIsInt := by
  refine F.ok scIsInt (fun vs H Q E h => ?_) (fun cdv A outer s H vs Q E hr h => ?_)
  · obtain ⟨x, rfl, _⟩ := h
    rfl
  · obtain ⟨x, rfl, pl, go⟩ := h
    refine ⟨_, (pss_one (ps_ret (pe_and (pe_callB call_isi (by rfl) T.isinst (by decide +kernel) (pa_cons (pv 0) (pa_cons (pe_bltn (v := .ty "int") (u := .type "int") (by rfl) T.int (by decide +kernel) (by exact rfl)) pa_nil))) (pe_one (pe_not (pe_callB call_isi (by rfl) T.isinst (by decide +kernel) (pa_cons (pv 0) (pa_cons (pe_bltn (v := .ty "bool") (u := .type "bool") (by rfl) T.bool (by decide +kernel) (by exact rfl)) pa_nil)))))))), ?_⟩
    obtain ⟨t, ty, ks, ki, kb⟩ := pl.ty (K := K)
    refine isi (K := K) rfl ty ki ⟨_, rfl, ?_⟩
    cases hb : (isI x || isB x) with
    | false =>
      refine ifN rfl ?_
      have := go H (Same.refl H)
      rw [show isI x = false by cases h : isI x with | false => rfl | true => rw [h] at hb; cases hb] at this
      exact this
    | true =>
      refine ifY rfl ?_
      refine isi (K := K) rfl ty kb ⟨_, rfl, ?_⟩
      have := go H (Same.refl H)
      rw [show isI x = !isB x by cases x <;> first | rfl | cases hb] at this
      exact this
theorem ok_isseq {f : Addr} {fd : FuncData} (F : Fun K "is_sequence" "is_sequence" sIsSeq f fd) (T : KindTxt K mg) : FnOk P w K mg base CX0 1 f fd ["thing"] spIsSeq := by
  refine F.ok scIsSeq (fun vs H Q E h => ?_) (fun cdv A outer s H vs Q E hr h => ?_)
  · obtain ⟨x, b, rfl, _⟩ := h
    rfl
  · obtain ⟨x, b, rfl, hb, go⟩ := h
    refine ⟨_, (pss_one (ps_ret (pe_callB call_isiT (by rfl) T.isinst (by decide +kernel) (pa_cons (pv 0) (pa_cons (pe_tup (pa_cons (pe_bltn (v := .ty "list") (u := .type "list") (by rfl) T.list (by decide +kernel) (by exact rfl)) (pa_cons (pe_bltn (v := .ty "tuple") (u := .type "tuple") (by rfl) T.tuple (by decide +kernel) (by exact rfl)) pa_nil))) pa_nil))))), ?_⟩
    refine ⟨_, rfl, by show 2 ≤ sizeLine; decide, fun tp nt => ?_⟩
    have s0 : Same H (upd H tp (.tup [.ty "list", .ty "tuple"])) := same_new nt
    have pr : Paired ClsV [V.ty "list", V.ty "tuple"] [Value.type "list", Value.type "tuple"] := .cons (.ty _) (.cons (.ty _) .nil)
    have q := go _ s0
    have hT : upd H tp (.tup [.ty "list", .ty "tuple"]) tp = some (.tup [.ty "list", .ty "tuple"]) := upd_same
    rcases hb with ⟨⟨us, a, rfl, h⟩, rfl⟩ | ⟨ns, rfl⟩
    · rcases h with h | h
      · exact ⟨_, tp, _, _, _, true, rfl, hT, pr, .base (.lst (s0 _ _ h)), kq (b1 := true) (b2 := false) (by decide +kernel) (by decide +kernel), q⟩
      · exact ⟨_, tp, _, _, _, true, rfl, hT, pr, .base (.tup (s0 _ _ h)), kq (b1 := false) (b2 := true) (by decide +kernel) (by decide +kernel), q⟩
    · cases ns with
      | non => exact ⟨_, tp, _, _, _, false, rfl, hT, pr, .base .non, kq (b1 := false) (b2 := false) (by decide +kernel) (by decide +kernel), q⟩
      | bl b => exact ⟨_, tp, _, _, _, false, rfl, hT, pr, .base (.bl b), kq (b1 := false) (b2 := false) (by decide +kernel) (by decide +kernel), q⟩
      | int i => exact ⟨_, tp, _, _, _, false, rfl, hT, pr, .base (.int i), kq (b1 := false) (b2 := false) (by decide +kernel) (by decide +kernel), q⟩
      | str x => exact ⟨_, tp, _, _, _, false, rfl, hT, pr, .base (.str x), kq (b1 := false) (b2 := false) (by decide +kernel) (by decide +kernel), q⟩
/-- [sign in l for sign in x] -/
theorem signs_all {g : TG} {te : TE} {vs : List Nat} {σ : L2.St} {H : Hp} {D : Addr} {x : Str} {l : List Nat} {Qd : Hp → Prop} (nD : H D = none) (lx : x.length ≤ 1000000)
    (turn : ∀ (c : Nat) (G : Hp) (R : VK), R (.bl (decide (c ∈ l))) G → g (.str ⟨#[c]⟩) (wipe σ vs) G fun σ2 H2 => wipe σ2 vs = wipe σ vs ∧ te σ2 H2 R)
    (done : ∀ G, Same H G → G D = some (.lst (((tl x).map fun c => decide (c ∈ l)).map V.bl)) → Qd G) :
    ∃ W : Nat → Nat → Hp → Prop, (∃ m, W 0 m (upd H D (.lst []))) ∧ ∀ i m H, W i m H →
      ((Its x).stop i H ∧ Qd H) ∨ ((Its x).go i H ∧ ∃ Nx : Hp → Prop, (∀ H', Nx H' → ∃ m', m' < m ∧ W (i + 1) m' H') ∧ ∀ v H', (Its x).yld i H v H' → g v (wipe σ vs) H' fun σ2 H2 => wipe σ2 vs = wipe σ vs ∧ tYes σ2 H2 fun b H3 =>
        if b = true then te σ2 H3 fun y H4 => ∃ acc, H4 D = some (.lst acc) ∧ acc.length < sizeLine ∧ Nx (upd H4 D (.lst (acc ++ [y]))) else Nx H3) := by
  refine lc_it (walk_str (z := x)) (fun i G => Same H G ∧ G D = some (.lst ((((tl x).take i).map fun c => decide (c ∈ l)).map V.bl))) ⟨same_new nD, upd_same⟩ (fun _ _ _ _ => trivial) (fun i v G G' hi ⟨sG, hD⟩ ⟨e, c, hc, ev⟩ => ?_) (fun G ⟨sG, hD⟩ => ?_)
  · subst e ev
    have hc' : (tl x)[i]? = some c := by simpa using hc
    refine turn c _ (fun y H4 => ∃ acc, H4 D = some (.lst acc) ∧ acc.length < sizeLine ∧ _) ⟨_, hD, ?_, ?_, ?_⟩
    · rw [List.length_map, List.length_map, List.length_take, lenT, sizeLine_eq]
      omega
    · exact fun b o e => (upd_ne (ne_of_none e nD)).trans (sG b o e)
    · rw [upd_same, K2P.take_snoc hc', List.map_append, List.map_append]
      rfl
  · refine done G sG ?_
    have : x.cps.size = (tl x).length := (lenT x).symm
    rw [this, List.take_length] at hD
    exact hD
theorem all_signs (x : Str) (l : List Nat) : ((tl x).map fun c => decide (c ∈ l)).all id = (tl x).all fun c => decide (c ∈ l) := by
  rw [List.all_map]
  rfl
theorem ok_isname {f : Addr} {fd : FuncData} (F : Fun K "is_name" "is_name" sIsName f fd) (T : KindTxt K mg) : FnOk P w K mg base CX0 1 f fd ["thing"] spIsName := by
  refine F.ok scIsName (fun vs H Q E h => ?_) (fun cdv A outer s H vs Q E hr h => ?_)
  · obtain ⟨x, rfl, _⟩ := h
    rfl
  · obtain ⟨x, rfl, pl, go⟩ := h
    obtain ⟨t4, g4⟩ := T.four
    obtain ⟨tl_, gl⟩ := T.lets
    refine ⟨_, pss_cons (ps_if (PW.pt (pw_or (pt_not (pt_val (pe_callB call_isi (by rfl) T.isinst (by decide +kernel) (pa_cons (pv 0) (pa_cons (pe_bltn (v := .ty "str") (u := .type "str") (by rfl) T.str (by decide +kernel) (by exact rfl)) pa_nil)))))
        (pw_or1 (pt_not (pt_chain op_le op_le pe_int (pe_callB call_len_str (by rfl) T.len PySem.boot_len (pa_cons (pv 0) pa_nil)) (pe_glob (v := .int 4) (by rfl) g4 ⟨t4, rfl⟩)))))) (pss_one (ps_ret pe_bl)) pss_nil)
      (pss_one (ps_ret (pe_callB (cr_all rfl) (by rfl) T.all (by decide +kernel) (pa_cons (pe_lc (own := [("sign", 1)]) (g := gName 1) (te := tOp rSign (tVar 1) (tC (.str "abcdefghijklmnopqrstuvwxyz"))) rfl scIsName.nd (pi_str (pv 0)) (blkOk_by (own := [("sign", 1)]) (N := ["thing", "sign"]) (sc := defScope sIsName) (by decide +kernel))
        (fun _ _ _ _ _ => pg_name (i := 1) scIsName.nd rfl (Or.inl rfl)) (fun _ _ _ _ _ => pts_nil) (fun _ _ _ _ _ => pe_cmpR op_sign (pv 1) (pe_glob (v := .str "abcdefghijklmnopqrstuvwxyz") (by rfl) gl ⟨tl_, rfl⟩) (by rfl))) pa_nil)))), ?_⟩
    obtain ⟨tt, ty, ks, _, _⟩ := pl.ty (K := K)
    refine isi (K := K) rfl ty ks ⟨_, rfl, ?_⟩
    have no : nmV x = false → Q (.bl false) H := fun e => by
      have := go H (Same.refl H)
      rw [e] at this
      exact this
    cases pl with
    | str x lx =>
      refine ifN rfl ?_
      refine ⟨_, rfl, x, rfl, by rw [sizeLine_eq]; omega, _, _, rfl, rfl, _, rfl, ?_⟩
      have l0 := lenT x
      by_cases h1 : 1 ≤ x.length
      · refine ifY (decide_eq_true (by omega)) ⟨_, _, rfl, rfl, _, rfl, ?_⟩
        by_cases h4 : x.length ≤ 4
        · rw [decide_eq_true (show (x.length : Int) ≤ 4 by omega)]
          refine ifN rfl ?_
          refine ⟨_, rfl, x, rfl, fun D nD => ?_⟩
          refine signs_all nD lx (l := lets) (fun c G R q => ⟨rfl, _, rfl, c, "abcdefghijklmnopqrstuvwxyz", rfl, rfl, q⟩) (fun G sG hD => ?_)
          refine ⟨D, _, rfl, SqL.of hD, ?_⟩
          rw [all_signs]
          have e : isNm x = (tl x).all fun c => decide (c ∈ lets) := by
            unfold isNm
            rw [decide_eq_true (by omega), decide_eq_true (by omega)]
            rfl
          rw [← e]
          exact go G sG
        · rw [decide_eq_false (show ¬ (x.length : Int) ≤ 4 by omega)]
          refine ifY rfl (no ?_)
          show isNm x = false
          unfold isNm
          rw [decide_eq_false (show ¬ (tl x).length ≤ 4 by omega), Bool.and_false, Bool.false_and]
      · refine ifN (decide_eq_false (by omega)) ⟨_, rfl, ifY rfl (no ?_)⟩
        show isNm x = false
        unfold isNm
        rw [decide_eq_false (show ¬ 1 ≤ (tl x).length by omega), Bool.false_and, Bool.false_and]
    | non => exact ifY rfl (no rfl)
    | bl b => exact ifY rfl (no rfl)
    | int i => exact ifY rfl (no rfl)
    | lst h => exact ifY rfl (no rfl)
    | tup h => exact ifY rfl (no rfl)
end
end CN

set_option Elab.async false
set_option linter.all false
set_option maxRecDepth 100000
set_option maxHeartbeats 4000000
set_option autoImplicit false
set_option pp.maxSteps 300
/-! figurehold.steps: words, forms, members. -/
namespace CN
open PySem L2 K1D K2P
inductive Wd where
  | free | slide | part | shift | turn | over | mirror | foot | meet | second | centre
  deriving DecidableEq
def wdS : Wd → Str
  | .free => "free" | .slide => "slide" | .part => "part" | .shift => "shift" | .turn => "turn" | .over => "over" | .mirror => "mirror" | .foot => "foot" | .meet => "meet" | .second => "second" | .centre => "centre"
def formT : Wd → Str
  | .free => "" | .slide => "pp" | .part => "ppnd" | .shift => "ppp" | .turn => "ppp" | .over => "pp" | .mirror => "ppp" | .foot => "ppp" | .meet => "pppp" | .second => "ppp" | .centre => "ppp"
def wds : List Wd := [.free, .slide, .part, .shift, .turn, .over, .mirror, .foot, .meet, .second, .centre]
def formsV : List (Str × V) := wds.map fun d => (wdS d, .str (formT d))
def leastV : List (Str × V) := [("n", .int (-100)), ("d", .int 1)]
def wdOf (x : Str) : Option Wd := wds.find? fun d => decide (wdS d = x)
theorem wdOf_wdS : ∀ d : Wd, wdOf (wdS d) = some d := by intro d; cases d <;> decide +kernel
theorem wdOf_eq {x : Str} {d : Wd} (h : wdOf x = some d) : x = wdS d := by
  unfold wdOf at h
  have := List.find?_some h
  exact (of_decide_eq_true (p := wdS d = x) this).symm
theorem fnd_map (f : Wd → V) : ∀ (l : List Wd) (x : Str), fnd (l.map fun d => (wdS d, f d)) x = (l.find? fun d => decide (wdS d = x)).map f
  | [], x => rfl
  | d :: l, x => by
    show ((((wdS d, f d) :: l.map fun d => (wdS d, f d)).find? fun e => decide (e.1 = x)).map (·.2)) = (((d :: l).find? fun d => decide (wdS d = x)).map f)
    rw [List.find?_cons, List.find?_cons]
    by_cases h : wdS d = x
    · simp [h]
    · simp only [h, decide_false]
      exact fnd_map f l x
theorem fnd_forms (x : Str) : fnd formsV x = (wdOf x).map fun d => V.str (formT d) := fnd_map _ wds x
/-- how many points, new unknowns, numbers -/
def arP : Wd → Nat
  | .free => 0 | .slide => 2 | .part => 2 | .shift => 3 | .turn => 3 | .over => 2 | .mirror => 3 | .foot => 3 | .meet => 4 | .second => 3 | .centre => 3
def arU : Wd → Nat
  | .free => 2 | .slide => 1 | _ => 0
def arN : Wd → Nat
  | .part => 2 | _ => 0
theorem form_cps : ∀ d : Wd, (formT d).cps.toList = List.replicate (arP d) 112 ++ (if arN d = 2 then [110, 100] else []) := by intro d; cases d <;> decide +kernel
theorem form_size : ∀ d : Wd, (formT d).cps.size = arP d + arN d := by intro d; cases d <;> decide +kernel
theorem form_len (d : Wd) : (formT d).length = arP d + arN d := form_size d
/-- it has a known word and as many members as that asks -/
def formedL : List V → Bool
  | .str x :: r => match wdOf x with
    | some d => decide (r.length = 1 + (arP d + arN d))
    | none => false
  | _ => false
/-- a member is right -/
def leastN (c : Nat) : Int := if c = 110 then -100 else 1
def memV (names : List Str) (c : Nat) (u : V) : Bool :=
  if c = 112 then (match u with | .str s => decide (s ∈ names) | _ => false) else (match u with | .int i => decide (leastN c ≤ i) && decide (i ≤ 100) | _ => false)
/-- the first wrong one -/
def wrongAt (names : List Str) : List Nat → List V → Option Nat
  | c :: cs, u :: us => if memV names c u = true then (wrongAt names cs us).map (· + 1) else some 0
  | _, _ => none
theorem isiC {K : PySem.W.Frag} {σ : L2.St} {H : Hp} {a T : String} {x : V} {b : Bool} {R : VK} (ty : TyOf K H x (.type a)) (k : kitB a T = some b) (go : R (.bl b) H) : tCons (tC (.ty T)) tNil σ H (fun xs H2 => rIsi K (x :: xs) H2 R) := isiV ty k go
theorem SeqV.ixI {K : PySem.W.Frag} {H : Hp} {v u : V} {us : List V} {Q : VK} {k : Nat} {j : Int} (h : SeqV H v us) (e : j = (k : Int)) (hu : us[k]? = some u) (q : Q u H) : rIx K v (.int j) H Q := by
  subst e
  exact h.ix hu q
def wrongV (o : Option Nat) : V := match o with | some k => .int ((2 + k : Nat) : Int) | none => .non
/-- at d a dict with just these names -/
def NamesD (H : Hp) (d : Addr) (names : List Str) : Prop := ∃ kvs : List (Key × V), H d = some (.dK kvs) ∧ ∀ x : Str, (valV kvs (Sum.inr x : Key)).isSome = decide (x ∈ names)
theorem NamesD.up {H G : Hp} {d : Addr} {names : List Str} (h : NamesD H d names) (s : Same H G) : NamesD G d names := by
  obtain ⟨kvs, h1, h2⟩ := h
  exact ⟨kvs, s _ _ h1, h2⟩
def Pls (H : Hp) (us : List V) : Prop := ∀ u ∈ us, Pl H u
theorem Pls.up {H G : Hp} {us : List V} (h : Pls H us) (s : Same H G) : Pls G us := fun u m => (h u m).up s
/-- the written tables of forms -/
structure StepTxt (K : PySem.W.Frag) (w : World) (mg : Str → Option Value) (dF dU dL dM : Addr) : Prop where
  gF : mg "FORMS" = some (.ref dF)
  gU : mg "UNKNOWNS" = some (.ref dU)
  gL : mg "LEAST" = some (.ref dL)
  gG : ∃ t, mg "GREATEST" = some (.int 100 t)
  tF : KTab K w dF formsV
  tU : KTab K w dU [("free", .str "xy"), ("slide", .str "t")]
  tL : KTab K w dL leastV
  gM : mg "MAKERS" = some (.ref dM)
abbrev sFormed : Stmt := K2P.top 20
abbrev sMember : Stmt := K2P.top 22
abbrev sWrong : Stmt := K2P.top 21
def spFormed : Sp := fun vs H Q _ => ∃ (x : V) (b : Bool), vs = [x] ∧ ((NoSeq x ∧ b = false) ∨ ∃ us, SeqV H x us ∧ Pls H us ∧ us.length < 1000000 ∧ b = formedL us) ∧ ∀ G, Same H G → Q (.bl b) G
def spMember : Sp := fun vs H Q _ => ∃ (u : V) (c : Nat) (d : Addr) (names : List Str), vs = [u, .str ⟨#[c]⟩, .ref d] ∧ Pl H u ∧ (c = 112 ∨ c = 110 ∨ c = 100) ∧ NamesD H d names ∧ ∀ G, Same H G → Q (.bl (memV names c u)) G
def spWrong : Sp := fun vs H Q _ => ∃ (x : V) (d : Addr) (names : List Str) (us : List V) (z nm : V) (wd : Wd), vs = [x, .ref d] ∧ SeqV H x (.str (wdS wd) :: nm :: us) ∧ us.length = arP wd + arN wd ∧ Pls H us ∧ NamesD H d names ∧ ∀ G, Same H G → Q (wrongV (wrongAt names (formT wd).cps.toList us)) G
section
variable {P : Program} {w : World} {K : PySem.W.Frag} {mg : Str → Option Value} {base : Heap} {dF dU dL dM fI fQ fM : Addr} {dI dQ ddM : FuncData}
theorem scFormed : FnScope ["step"] ["step"] (defScope sFormed) := ⟨rfl, rfl, rfl, by decide +kernel, rfl, by decide +kernel, by decide +kernel⟩
theorem scMember : FnScope ["member", "form", "points"] ["member", "form", "points"] (defScope sMember) := ⟨rfl, rfl, rfl, by decide +kernel, rfl, by decide +kernel, by decide +kernel⟩
theorem scWrong : FnScope ["step", "points", "at", "form"] ["step", "points"] (defScope sWrong) := ⟨rfl, rfl, rfl, by decide +kernel, rfl, by decide +kernel, by decide +kernel⟩
theorem ok_formed {f : Addr} {fd : FuncData} (F : Fun K "is_formed" "is_formed" sFormed f fd) (T : KindTxt K mg) (S : StepTxt K w mg dF dU dL dM) (UQ : CallT P w K mg base CX0 1 "is_sequence" ["thing"] spIsSeq fQ dQ) : FnOk P w K mg base CX0 2 f fd ["step"] spFormed := by
  refine F.ok scFormed (fun vs H Q E h => ?_) (fun cdv A outer s H vs Q E hr h => ?_)
  · obtain ⟨x, b, rfl, _⟩ := h
    rfl
  · obtain ⟨x, b, rfl, hb, go⟩ := h
    refine ⟨_, (pss_cons (ps_if (PW.pt (pw_or (pt_not (pt_val (pe_call UQ.ok (hr.mono (by decide)) rfl UQ.g UQ.k UQ.b .nil pass0 (pa_cons (pv 0) pa_nil)))) (pw_or (pt_not (pt_truth (pv 0) (fun _ => rfl))) (pw_or1 (pt_not (pt_val (pe_callB call_isi (by rfl) T.isinst (by decide +kernel) (pa_cons (pe_ix ix_seq (pv 0) pe_int (fun _ _ => rfl)) (pa_cons (pe_bltn (v := .ty "str") (u := .type "str") (by rfl) T.str (by decide +kernel) (by exact rfl)) pa_nil))))))))) (pss_one (ps_ret pe_bl)) pss_nil)
      (pss_one (ps_ret (pe_and (pe_cmpR op_in_tab (pe_ix ix_seq (pv 0) pe_int (fun _ _ => rfl)) (pe_glob (v := .ref dF) (by rfl) S.gF rfl) (by rfl)) (pe_one (pe_cmpR op_eq (pe_callB call_len_seq (by rfl) T.len PySem.boot_len (pa_cons (pv 0) pa_nil)) (pe_op op_add pe_int (pe_callB call_len_str (by rfl) T.len PySem.boot_len (pa_cons (pe_ix ix_kdict (pe_glob (v := .ref dF) (by rfl) S.gF rfl) (pe_ix ix_seq (pv 0) pe_int (fun _ _ => rfl)) (fun _ _ => rfl)) pa_nil))) (nomark _))))))), ?_⟩
    rcases hb with ⟨ns, rfl⟩ | ⟨us, sq, pl, lu, rfl⟩
    · exact ⟨_, rfl, x, false, rfl, .inr ⟨ns, rfl⟩, fun G sG => ⟨_, rfl, ifY rfl (go G sG)⟩⟩
    · refine ⟨_, rfl, x, true, rfl, .inl ⟨⟨us, sq⟩, rfl⟩, fun G sG => ⟨_, rfl, ifN rfl ?_⟩⟩
      have sq := sq.up sG
      have pl := pl.up sG
      refine ⟨_, rfl, _, sq.tru, ?_⟩
      cases us with
      | nil => exact ifY rfl (go G sG)
      | cons u us =>
        refine ifN rfl ?_
        obtain ⟨t, ty, ks, _, _⟩ := (pl u List.mem_cons_self).ty (K := K)
        refine ⟨_, rfl, sq.ix (k := 0) rfl ?_⟩
        refine isiC ty ks ⟨_, rfl, ?_⟩
        cases u with
        | str y =>
          refine ifN rfl ?_
          refine ⟨_, rfl, sq.ix (k := 0) rfl ⟨y, dF, formsV, rfl, rfl, S.tF, ?_⟩⟩
          rw [fnd_forms]
          cases hw : wdOf y with
          | none =>
            refine ⟨false, rfl, ifN rfl ?_⟩
            have := go G sG
            rw [show formedL (.str y :: us) = false by simp only [formedL, hw]] at this
            exact this
          | some d =>
            refine ⟨true, rfl, ifY rfl ?_⟩
            obtain ⟨a, rfl, sqa⟩ := sq.sq (K := K)
            refine ⟨_, rfl, a, _, rfl, sqa, ?_⟩
            refine ⟨_, rfl, sq.ix (k := 0) rfl ⟨dF, y, .str (formT d), rfl, rfl, S.tF.dct (by rw [fnd_forms, hw]; rfl), formT d, rfl, by rw [form_len, sizeLine_eq]; cases d <;> decide, ?_⟩⟩
            refine ⟨_, _, rfl, rfl, rfl, ?_⟩
            have := go G sG
            rw [show formedL (.str y :: us) = decide (V.int ((((V.str y) :: us).length : Nat) : Int) = V.int (2 + ((formT d).length : Int))) by
              simp only [formedL, hw]
              rw [form_len]
              rw [List.length_cons]
              refine decide_eq_decide.mpr ⟨fun e => congrArg V.int (by omega), fun e => ?_⟩
              have e2 : (((us.length + 1 : Nat)) : Int) = 2 + ((arP d + arN d : Nat) : Int) := V.int.inj e
              omega] at this
            exact this
        | non => exact ifY rfl (go G sG)
        | bl b => exact ifY rfl (go G sG)
        | int i => exact ifY rfl (go G sG)
        | _ => exact ifY rfl (go G sG)
theorem ok_member {f : Addr} {fd : FuncData} (F : Fun K "_is_member" "_is_member" sMember f fd) (T : KindTxt K mg) (S : StepTxt K w mg dF dU dL dM) (UI : CallT P w K mg base CX0 1 "is_integer" ["thing"] spIsInt fI dI) : FnOk P w K mg base CX0 2 f fd ["member", "form", "points"] spMember := by
  refine F.ok scMember (fun vs H Q E h => ?_) (fun cdv A outer s H vs Q E hr h => ?_)
  · obtain ⟨u, c, d, names, rfl, _⟩ := h
    rfl
  · obtain ⟨u, c, d, names, rfl, pl, hc, ⟨kvs, hd, hn⟩, go⟩ := h
    obtain ⟨tg, gr⟩ := S.gG
    refine ⟨_, (pss_cons (ps_if (pt_cmpR op_eq (pv 1) pe_str (nomark _)) (pss_one (ps_ret (pe_and (pe_callB call_isi (by rfl) T.isinst (by decide +kernel) (pa_cons (pv 0) (pa_cons (pe_bltn (v := .ty "str") (u := .type "str") (by rfl) T.str (by decide +kernel) (by exact rfl)) pa_nil))) (pe_one (pe_cmp (pc_din (hu1 hr) (pv 0) (pv 2))))))) pss_nil)
      (pss_one (ps_ret (pe_and (pe_call UI.ok (hr.mono (by decide)) rfl UI.g UI.k UI.b .nil pass0 (pa_cons (pv 0) pa_nil)) (pe_one (pe_chain op_le op_le (pe_ix ix_kdict (pe_glob (v := .ref dL) (by rfl) S.gL rfl) (pv 1) (fun _ _ => rfl)) (pv 0) (pe_glob (v := .int 100) (by rfl) gr ⟨tg, rfl⟩))))))), ?_⟩
    refine ⟨_, rfl, rfl, _, rfl, ?_⟩
    by_cases h112 : c = 112
    · subst h112
      refine ifY (decide_eq_true (by decide +kernel)) ?_
      obtain ⟨t, ty, ks, _, _⟩ := pl.ty (K := K)
      refine ⟨u, rfl, ?_⟩
      refine isiC ty ks ⟨_, rfl, ?_⟩
      have q := go H (Same.refl H)
      cases u with
      | str y =>
        refine ifY rfl ⟨_, rfl, _, rfl, d, _, rfl, DGet.k (k := eS y) hd, ?_⟩
        rw [show (valV kvs (eS y)).isSome = decide (y ∈ names) from hn y]
        exact q
      | non => exact ifN rfl q
      | bl b => exact ifN rfl q
      | int i => exact ifN rfl q
      | _ => exact ifN rfl q
    · refine ifN (decide_eq_false (fun e => h112 ?_)) ?_
      · have z2 : (⟨#[c]⟩ : Str) = "p" := V.str.inj e
        have z3 := congrArg (fun y : Str => y.cps.toList) z2
        have z4 : [c] = [112] := z3.trans (by decide +kernel)
        exact (List.cons.inj z4).1
      refine ⟨u, rfl, u, rfl, pl, fun G sG => ⟨_, rfl, ?_⟩⟩
      have q := go G sG
      have lc : ∃ v, fnd leastV ⟨#[c]⟩ = some (.int v) ∧ v = leastN c := by
        rcases hc with rfl | rfl | rfl
        · exact absurd rfl h112
        · exact ⟨_, by decide +kernel, rfl⟩
        · exact ⟨_, by decide +kernel, rfl⟩
      obtain ⟨lv, l1, rfl⟩ := lc
      cases u with
      | int i =>
        refine ifY rfl ⟨_, rfl, dL, _, _, rfl, rfl, S.tL.dct l1, _, rfl, _, _, rfl, rfl, _, rfl, ?_⟩
        unfold memV at q
        rw [if_neg h112] at q
        by_cases h1 : leastN c ≤ i
        · refine ifY (decide_eq_true h1) ⟨_, _, rfl, rfl, ?_⟩
          dsimp only at q
          rw [decide_eq_true h1, Bool.true_and] at q
          exact q
        · refine ifN (decide_eq_false h1) ?_
          dsimp only at q
          rw [decide_eq_false h1, Bool.false_and] at q
          exact q
      | _ =>
        refine ifN rfl ?_
        unfold memV at q
        rw [if_neg h112] at q
        exact q
theorem wrong_go {names : List Str} {cs : List Nat} {us : List V} {i c : Nat} {u : V} (hc : cs[i]? = some c) (hu : us[i]? = some u) : wrongAt names (cs.drop i) (us.drop i) = if memV names c u = true then (wrongAt names (cs.drop (i + 1)) (us.drop (i + 1))).map (· + 1) else some 0 := by
  have lc := (List.getElem?_eq_some_iff.mp hc)
  have lu := (List.getElem?_eq_some_iff.mp hu)
  rw [List.drop_eq_getElem_cons lc.1, List.drop_eq_getElem_cons lu.1, lc.2, lu.2]
  rfl
theorem ok_wrong {f : Addr} {fd : FuncData} (F : Fun K "wrong_behind_name" "wrong_behind_name" sWrong f fd) (T : KindTxt K mg) (S : StepTxt K w mg dF dU dL dM) (UM : CallT P w K mg base CX0 2 "_is_member" ["member", "form", "points"] spMember fM ddM) : FnOk P w K mg base CX0 3 f fd ["step", "points"] spWrong := by
  refine F.ok scWrong (fun vs H Q E h => ?_) (fun cdv A outer s H vs Q E hr h => ?_)
  · obtain ⟨x, d, names, us, z, nm, wd, rfl, _⟩ := h
    rfl
  · obtain ⟨x, d, names, us, z, nm, wd, rfl, sq, lu, pl, nd, go⟩ := h
    refine ⟨_, (pss_cons (ps_for PassesOwn.never rfl (pi_enumS (by rfl) T.enum (pa_cons (pe_ix ix_kdict (pe_glob (v := .ref dF) (by rfl) S.gF rfl) (pe_ix ix_seq (pv 0) pe_int (fun _ _ => rfl)) (fun _ _ => rfl)) pa_nil)) (pg_tup rfl (pgs_cons (pg_name (i := 2) scWrong.nd rfl (Or.inl rfl)) (pgs_cons (pg_name (i := 3) scWrong.nd rfl (Or.inl rfl)) pgs_nil))) (pss_one (ps_if (pt_not (pt_val (pe_call UM.ok (hr.mono (by decide)) rfl UM.g UM.k UM.b .nil pass0 (pa_cons (pe_ix ix_seq (pv 0) (pe_op op_add pe_int (pv 2)) (fun _ _ => rfl)) (pa_cons (pv 3) (pa_cons (pv 1) pa_nil)))))) (pss_one (ps_ret (pe_op op_add pe_int (pv 2)))) pss_nil)))
      (pss_one (ps_ret pe_non))), ?_⟩
    refine ⟨_, rfl, sq.ix (k := 0) rfl ⟨dF, wdS wd, .str (formT wd), rfl, rfl, S.tF.dct (by rw [fnd_forms, wdOf_wdS]; rfl), formT wd, rfl, ?_⟩⟩
    have sz := form_size wd
    refine for_it (walk_enumS (z := formT wd)) (fun i σ G => ∃ u2 u3 : Option V, σ = [some x, some (.ref d), u2, u3] ∧ Same H G ∧ wrongAt names (formT wd).cps.toList us = (wrongAt names ((formT wd).cps.toList.drop i) (us.drop i)).map (· + i))
      ⟨_, _, rfl, Same.refl H, by simp⟩ (fun _ _ _ _ _ => trivial) (fun i y σ G G' hi ⟨u2, u3, hσ, sG, hw⟩ ⟨t, c, e, nt, eG, hc⟩ => ?_) (fun σ G ⟨u2, u3, hσ, sG, hw⟩ => ?_)
    · subst hσ e eG
      have hc' : (formT wd).cps.toList[i]? = some c := by simpa using hc
      have hi' : i < us.length := by rw [lu, ← sz]; exact hi
      have hu := List.getElem?_eq_getElem hi'
      generalize us[i] = u at hu
      have ht : upd G t (.tup [.int (i : Nat), .str ⟨#[c]⟩]) t = some (.tup [.int (i : Nat), .str ⟨#[c]⟩]) := upd_same
      have s2 : Same H (upd G t (.tup [.int (i : Nat), .str ⟨#[c]⟩])) := sG.trans (same_new nt)
      generalize upd G t (.tup [.int (i : Nat), .str ⟨#[c]⟩]) = G2 at ht s2
      have go1 := wrong_go (names := names) hc' hu
      have cm : c = 112 ∨ c = 110 ∨ c = 100 := by
        have m := List.mem_of_getElem? hc'
        rw [form_cps] at m
        rcases List.mem_append.mp m with m | m
        · exact .inl (List.mem_replicate.mp m).2
        · split at m
          · simp at m
            exact .inr m
          · cases m
      refine ⟨t, _, rfl, SqT.of ht, rfl, _, _, rfl, _, _, rfl, rfl, ?_⟩
      refine ⟨_, rfl, ?_⟩
      refine ⟨_, rfl, _, _, rfl, rfl, ?_⟩
      refine (sq.up s2).ixI (k := i + 2) (by omega) hu ⟨_, rfl, _, rfl, u, c, d, names, rfl, (pl u (List.mem_of_getElem? hu)).up s2, cm, nd.up s2, fun G3 s3 => ⟨_, rfl, ?_⟩⟩
      cases hm : memV names c u with
      | true =>
        rw [if_pos hm] at go1
        refine ifN rfl ⟨_, _, rfl, s2.trans s3, ?_⟩
        rw [hw, go1, Option.map_map]
        congr 1
        funext k
        show k + 1 + i = k + (i + 1)
        omega
      | false =>
        rw [if_neg (by rw [hm]; exact Bool.false_ne_true)] at go1
        refine ifY rfl ⟨_, rfl, _, _, rfl, rfl, ?_⟩
        have q := go G3 (s2.trans s3)
        rw [hw, go1] at q
        have e3 : wrongV (Option.map (fun x => x + i) (some 0)) = V.int (2 + (i : Int)) := by
          show V.int ((2 + (0 + i) : Nat) : Int) = _
          congr 1
          omega
        rw [e3] at q
        exact q
    · subst hσ
      have q := go G sG
      have e0 : wrongAt names (formT wd).cps.toList us = none := by
        rw [hw]
        have : (formT wd).cps.toList.drop (formT wd).cps.size = [] := List.drop_eq_nil_of_le (by simp)
        rw [this]
        rfl
      rw [e0] at q
      exact q
end
end CN

set_option Elab.async false
set_option linter.all false
set_option maxRecDepth 100000
set_option maxHeartbeats 4000000
set_option autoImplicit false
set_option pp.maxSteps 300
/-! figurehold.making.made: the point of a step. -/
namespace CN
open PySem L2 K1D K2P
/-- a step of the right form -/
structure Stp where
  w : Wd
  nm : Str
  el : List Str
  nu : List Int
  deriving DecidableEq
def Stp.mem (s : Stp) : List V := s.el.map V.str ++ s.nu.map V.int
def Stp.vals (s : Stp) : List V := .str (wdS s.w) :: .str s.nm :: s.mem
structure Stp.Shp (s : Stp) : Prop where
  el : s.el.length = arP s.w
  nu : s.nu.length = arN s.w
def unkT : Wd → Str
  | .free => "xy" | .slide => "t" | _ => ""
def unkN (nm : Str) (c : Nat) : Str := ((Str.empty ++ ⟨#[c]⟩) ++ "_") ++ nm
def newUnk (s : Stp) : List Str := (unkT s.w).cps.toList.map (unkN s.nm)
theorem unk_size : ∀ d : Wd, (unkT d).cps.size = arU d := by intro d; cases d <;> decide +kernel
theorem ar4 : ∀ d : Wd, arP d ≤ 4 := by intro d; cases d <;> decide
theorem ar2 : ∀ d : Wd, arU d ≤ 2 := by intro d; cases d <;> decide
theorem arN2 : ∀ d : Wd, arN d ≤ 2 := by intro d; cases d <;> decide
theorem newUnk_len (s : Stp) : (newUnk s).length = arU s.w := by
  unfold newUnk
  rw [List.length_map, Array.length_toList, unk_size]
/-- what a step makes of points, unknowns and numbers -/
def mkP : Wd → List P3 → List Px → List Int → P3
  | .free, _, [x, y], _ => placedX x y
  | .slide, [a, b], [t], _ => slidX a b t
  | .part, [a, b], _, [n, d] => partX a b n d
  | .shift, [q, a, b], _, _ => shiftX q a b
  | .turn, [q, a, b], _, _ => turnX q a b
  | .over, [q, c], _, _ => overX q c
  | .mirror, [q, a, b], _, _ => mirrorX q a b
  | .foot, [q, a, b], _, _ => footX q a b
  | .meet, [a, b, c, d], _, _ => meetX a b c d
  | .second, [a, b, o], _, _ => secondX a b o
  | .centre, [a, b, c], _, _ => centreX a b c
  | _, _, _, _ => placedX (.num 0) (.num 0)
def spMkr (C : Addr) (wd : Wd) : Sp := fun vs H Q _ => ∃ (z : V) (ts us : List V) (ps : List P3) (es : List Px) (ns : List Int), vs = z :: (ts ++ (us ++ ns.map V.int)) ∧ RingAt C H z ∧ ts.length = arP wd ∧ Paired (TripE H) ts ps ∧ us.length = arU wd ∧ Paired (TabE H) us es ∧ ns.length = arN wd ∧ Fine3 (mkP wd ps es ns) ∧
  ∀ (x : V) (G : Hp), Same H G → TripE G x (mkP wd ps es ns) → Q x G
theorem pair_get {α β : Type} {F : α → β → Prop} : ∀ {l : List α} {m : List β}, Paired F l m → ∀ {k : Nat} {a : α} {b : β}, l[k]? = some a → m[k]? = some b → F a b
  | _, _, .nil, k, a, b, h, _ => by cases k <;> cases h
  | _, _, .cons f r, 0, a, b, h, g => by cases h; cases g; exact f
  | _, _, .cons f r, k + 1, a, b, h, g => pair_get r (k := k) h g
theorem pr0 {α β : Type} {F : α → β → Prop} {l : List α} {m : List β} (h : Paired F l m) (e : l.length = 0) : l = [] ∧ m = [] := by
  cases h with
  | nil => exact ⟨rfl, rfl⟩
  | cons _ _ => cases e
theorem pr1 {α β : Type} {F : α → β → Prop} {n : Nat} {l : List α} {m : List β} (h : Paired F l m) (e : l.length = n + 1) : ∃ a b l' m', l = a :: l' ∧ m = b :: m' ∧ F a b ∧ Paired F l' m' ∧ l'.length = n := by
  cases h with
  | nil => cases e
  | cons h r => exact ⟨_, _, _, _, rfl, rfl, h, r, Nat.succ.inj e⟩
theorem ln0 {α : Type} {l : List α} (e : l.length = 0) : l = [] := List.length_eq_zero_iff.mp e
theorem ln1 {α : Type} {n : Nat} {l : List α} (e : l.length = n + 1) : ∃ a l', l = a :: l' ∧ l'.length = n := by
  cases l with
  | nil => cases e
  | cons a l => exact ⟨a, l, rfl, Nat.succ.inj e⟩
section
variable {C : Addr} {vs : List V} {H : Hp} {Q : VK} {E : XK}
theorem mk_free (h : spMkr C .free vs H Q E) : spPlaced C vs H Q E := by
  obtain ⟨z, ts, us, ps, es, ns, rfl, hr, l1, p1, l2, p2, l3, fi, go⟩ := h
  obtain ⟨rfl, rfl⟩ := pr0 p1 l1
  obtain ⟨u0, e0, us, es, rfl, rfl, f0, p2, l2⟩ := pr1 p2 l2
  obtain ⟨u1, e1, us, es, rfl, rfl, f1, p2, l2⟩ := pr1 p2 l2
  obtain ⟨rfl, rfl⟩ := pr0 p2 l2
  obtain rfl := ln0 l3
  exact ⟨z, u0, u1, e0, e1, rfl, hr, f0, f1, go⟩
theorem mk_slide (h : spMkr C .slide vs H Q E) : spSlid C vs H Q E := by
  obtain ⟨z, ts, us, ps, es, ns, rfl, hr, l1, p1, l2, p2, l3, fi, go⟩ := h
  obtain ⟨t0, q0, ts, ps, rfl, rfl, f0, p1, l1⟩ := pr1 p1 l1
  obtain ⟨t1, q1, ts, ps, rfl, rfl, f1, p1, l1⟩ := pr1 p1 l1
  obtain ⟨rfl, rfl⟩ := pr0 p1 l1
  obtain ⟨u0, e0, us, es, rfl, rfl, g0, p2, l2⟩ := pr1 p2 l2
  obtain ⟨rfl, rfl⟩ := pr0 p2 l2
  obtain rfl := ln0 l3
  exact ⟨z, t0, t1, u0, q0, q1, e0, rfl, hr, f0, f1, g0, fi, go⟩
theorem mk_part (h : spMkr C .part vs H Q E) : spParted C vs H Q E := by
  obtain ⟨z, ts, us, ps, es, ns, rfl, hr, l1, p1, l2, p2, l3, fi, go⟩ := h
  obtain ⟨t0, q0, ts, ps, rfl, rfl, f0, p1, l1⟩ := pr1 p1 l1
  obtain ⟨t1, q1, ts, ps, rfl, rfl, f1, p1, l1⟩ := pr1 p1 l1
  obtain ⟨rfl, rfl⟩ := pr0 p1 l1
  obtain ⟨rfl, rfl⟩ := pr0 p2 l2
  obtain ⟨n, ns1, e1, l4⟩ := ln1 l3
  obtain ⟨d, ns2, e2, l5⟩ := ln1 l4
  obtain rfl := ln0 l5
  subst e2
  subst e1
  exact ⟨z, t0, t1, q0, q1, n, d, rfl, hr, f0, f1, fi, go⟩
theorem mk_over (h : spMkr C .over vs H Q E) : spM2 C overX vs H Q E := by
  obtain ⟨z, ts, us, ps, es, ns, rfl, hr, l1, p1, l2, p2, l3, fi, go⟩ := h
  obtain ⟨t0, q0, ts, ps, rfl, rfl, f0, p1, l1⟩ := pr1 p1 l1
  obtain ⟨t1, q1, ts, ps, rfl, rfl, f1, p1, l1⟩ := pr1 p1 l1
  obtain ⟨rfl, rfl⟩ := pr0 p1 l1
  obtain ⟨rfl, rfl⟩ := pr0 p2 l2
  obtain rfl := ln0 l3
  exact ⟨z, t0, t1, q0, q1, rfl, hr, f0, f1, fi, go⟩
theorem mk_three {wd : Wd} {f : P3 → P3 → P3 → P3} (a : arP wd = 3) (b : arU wd = 0) (c : arN wd = 0) (e : ∀ p q r, mkP wd [p, q, r] [] [] = f p q r) (h : spMkr C wd vs H Q E) : spM3 C f vs H Q E := by
  obtain ⟨z, ts, us, ps, es, ns, rfl, hr, l1, p1, l2, p2, l3, fi, go⟩ := h
  rw [a] at l1
  rw [b] at l2
  rw [c] at l3
  obtain ⟨t0, q0, ts, ps, rfl, rfl, f0, p1, l1⟩ := pr1 p1 l1
  obtain ⟨t1, q1, ts, ps, rfl, rfl, f1, p1, l1⟩ := pr1 p1 l1
  obtain ⟨t2, q2, ts, ps, rfl, rfl, f2, p1, l1⟩ := pr1 p1 l1
  obtain ⟨rfl, rfl⟩ := pr0 p1 l1
  obtain ⟨rfl, rfl⟩ := pr0 p2 l2
  obtain rfl := ln0 l3
  rw [e] at fi go
  exact ⟨z, t0, t1, t2, q0, q1, q2, rfl, hr, f0, f1, f2, fi, go⟩
theorem mk_meet (h : spMkr C .meet vs H Q E) : spM4 C meetX vs H Q E := by
  obtain ⟨z, ts, us, ps, es, ns, rfl, hr, l1, p1, l2, p2, l3, fi, go⟩ := h
  obtain ⟨t0, q0, ts, ps, rfl, rfl, f0, p1, l1⟩ := pr1 p1 l1
  obtain ⟨t1, q1, ts, ps, rfl, rfl, f1, p1, l1⟩ := pr1 p1 l1
  obtain ⟨t2, q2, ts, ps, rfl, rfl, f2, p1, l1⟩ := pr1 p1 l1
  obtain ⟨t3, q3, ts, ps, rfl, rfl, f3, p1, l1⟩ := pr1 p1 l1
  obtain ⟨rfl, rfl⟩ := pr0 p1 l1
  obtain ⟨rfl, rfl⟩ := pr0 p2 l2
  obtain rfl := ln0 l3
  exact ⟨z, t0, t1, t2, t3, q0, q1, q2, q3, rfl, hr, f0, f1, f2, f3, fi, go⟩
end
/-- the table of makers -/
structure MakersT (P : Program) (w : World) (K : PySem.W.Frag) (mg : Str → Option Value) (base : Heap) (C dM : Addr) (mk : Wd → Addr) : Prop where
  tab : KTab K w dM (wds.map fun d => (wdS d, V.ref (mk d)))
  held : ∀ d, Held P w K mg base 8 (mk d) (spMkr C d)
theorem held_of {P : Program} {w : World} {K : PySem.W.Frag} {mg : Str → Option Value} {base : Heap} {f : Addr} {fd : FuncData} {ps : List Str} {sp sp' : Sp} {k : Nat} (F : FnOk P w K mg base CX0 k f fd ps sp) (kf : PySem.W.keepIn K (.ref f) = true) (b : Binds K fd ps []) (h : k ≤ 8) (i : ∀ vs H Q E, sp' vs H Q E → sp vs H Q E) : Held P w K mg base 8 f sp' :=
  ⟨⟨fd, ps, (F.mono h).imp i, kf, b⟩⟩
abbrev sElders : Stmt := K2P.top 23
abbrev sNewUnk : Stmt := K2P.top 24
abbrev sMade : Stmt := K2P.top 41
def tUnk (K : PySem.W.Frag) : TE := fun σ H Q => tJs [tFmt (tVar 1), tC (.str "_"), tFmt (tOp (rIx K) (tVar 0) (tC (.int 1)))] Str.empty σ H fun out H1 => Q (.str out) H1
def spElders : Sp := fun vs H Q _ => ∃ (x : V) (s : Stp), vs = [x] ∧ s.Shp ∧ SeqV H x s.vals ∧ ∀ (p : Addr) (G : Hp), Same H G → G p = some (.tup (s.el.map V.str)) → Q (.ref p) G
def spNewUnk : Sp := fun vs H Q _ => ∃ (x : V) (s : Stp), vs = [x] ∧ s.nm.length ≤ 1000 ∧ SeqV H x s.vals ∧ ∀ (p : Addr) (G : Hp), Same H G → G p = some (.tup ((newUnk s).map V.str)) → Q (.ref p) G
/-- at t the triples of these points; at d the tables of the unknowns -/
def TrisD (H : Hp) (t : Addr) (tri : Str → Option P3) : Prop := ∃ kvs : List (Key × V), H t = some (.dK kvs) ∧ ∀ x p, tri x = some p → ∃ v, valV kvs (Sum.inr x : Key) = some v ∧ TripE H v p
def UnkD (H : Hp) (d : Addr) (us : List Str) : Prop := ∃ kvs : List (Key × V), H d = some (.dK kvs) ∧ ∀ (i : Nat) x, us[i]? = some x → ∃ v, valV kvs (Sum.inr x : Key) = some v ∧ TabE H v (.var i)
theorem TrisD.up {H G : Hp} {t : Addr} {tri : Str → Option P3} (h : TrisD H t tri) (s : Same H G) : TrisD G t tri := by
  obtain ⟨kvs, h1, h2⟩ := h
  exact ⟨kvs, s _ _ h1, fun x p e => (h2 x p e).elim fun v ⟨a, b⟩ => ⟨v, a, b.up s⟩⟩
theorem UnkD.up {H G : Hp} {d : Addr} {us : List Str} (h : UnkD H d us) (s : Same H G) : UnkD G d us := by
  obtain ⟨kvs, h1, h2⟩ := h
  exact ⟨kvs, s _ _ h1, fun i x e => (h2 i x e).elim fun v ⟨a, b⟩ => ⟨v, a, b.up s⟩⟩
def varsX (k n : Nat) : List Px := (List.range n).map fun i => .var (k + i)
def Stp.mk3 (s : Stp) (tri : Str → Option P3) (k : Nat) : P3 := mkP s.w (s.el.map fun x => (tri x).getD (placedX (.num 0) (.num 0))) (varsX k (arU s.w)) s.nu
def spMade (C : Addr) : Sp := fun vs H Q _ => ∃ (z : V) (a t d : Addr) (s : Stp) (tri : Str → Option P3) (us : List Str), vs = [z, .ref a, .ref t, .ref d] ∧ s.Shp ∧ s.nm.length ≤ 1000 ∧ RingAt C H z ∧ H a = some (.tup s.vals) ∧ TrisD H t tri ∧ (∀ x ∈ s.el, (tri x).isSome = true) ∧
  UnkD H d (us ++ newUnk s) ∧ Fine3 (s.mk3 tri us.length) ∧ ∀ (x : V) (G : Hp), Same H G → TripE G x (s.mk3 tri us.length) → Q x G
section
variable {P : Program} {w : World} {K : PySem.W.Frag} {mg : Str → Option Value} {base : Heap} {dF dU dL dM fE fN C : Addr} {dE dN : FuncData} {mk : Wd → Addr}
theorem scElders : FnScope ["step", "at", "form"] ["step"] (defScope sElders) := ⟨rfl, rfl, rfl, by decide +kernel, rfl, by decide +kernel, by decide +kernel⟩
theorem scNewUnk : FnScope ["step", "letter"] ["step"] (defScope sNewUnk) := ⟨rfl, rfl, rfl, by decide +kernel, rfl, by decide +kernel, by decide +kernel⟩
theorem scMade : FnScope ["ring", "step", "triples", "unknowns", "named", "found", "maker", "name"] ["ring", "step", "triples", "unknowns"] (defScope sMade) := ⟨rfl, rfl, rfl, by decide +kernel, rfl, by decide +kernel, by decide +kernel⟩
theorem ok_elders {f : Addr} {fd : FuncData} (F : Fun K "elders" "elders" sElders f fd) (T : KindTxt K mg) (S : StepTxt K w mg dF dU dL dM) : FnOk P w K mg base CX0 1 f fd ["step"] spElders := by
  refine F.ok scElders (fun vs H Q E h => ?_) (fun cdv A outer s H vs Q E hr h => ?_)
  · obtain ⟨x, s, rfl, _⟩ := h
    rfl
  · obtain ⟨x, s, rfl, shp, sq, go⟩ := h
    refine ⟨_, (pss_one (ps_ret (pe_tupleOf (by rfl) T.tuple (pe_lc (own := [("at", 1), ("form", 2)]) (g := (gTup K 2 (gCons (gName 1) (gCons (gName 2) gNil)))) (tt := (tTest (tOp rEq (tVar 2) (tC (.str "p"))))) (te := (tOp (rIx K) (tVar 0) (tOp (rI0 fun i j => .int (i + j)) (tC (.int 2)) (tVar 1)))) rfl scElders.nd (pi_enumS (by rfl) T.enum (pa_cons (pe_ix ix_kdict (pe_glob (v := .ref dF) (by rfl) S.gF rfl) (pe_ix ix_seq (pv 0) pe_int (fun _ _ => rfl)) (fun _ _ => rfl)) pa_nil)) (blkOk_by (own := [("at", 1), ("form", 2)]) (N := ["step", "at", "form"]) (sc := defScope sElders) (by decide +kernel)) (fun _ _ _ _ _ => (pg_tup rfl (pgs_cons (pg_name (i := 1) scElders.nd rfl (Or.inl rfl)) (pgs_cons (pg_name (i := 2) scElders.nd rfl (Or.inl rfl)) pgs_nil)))) (fun _ _ _ _ _ => (pts_one (pt_cmpR op_eq (pv 2) pe_str (nomark _)))) (fun _ _ _ _ _ => (pe_ix ix_seq (pv 0) (pe_op op_add pe_int (pv 1)) (fun _ _ => rfl))))))), ?_⟩
    refine ⟨_, rfl, sq.ix (k := 0) rfl ⟨dF, wdS s.w, .str (formT s.w), rfl, rfl, S.tF.dct (by rw [fnd_forms, wdOf_wdS]; rfl), formT s.w, rfl, fun D nD => ?_⟩⟩
    have sz := form_size s.w
    have fc := form_cps s.w
    have se := shp.el
    refine lc_it (walk_enumS (z := formT s.w)) (fun i G => Same H G ∧ G D = some (.lst ((s.el.take i).map V.str))) ⟨same_new nD, upd_same⟩ (fun _ _ _ _ => trivial) (fun i y G G' hi ⟨sG, hD⟩ ⟨t, c, e, nt, eG, hc⟩ => ?_) (fun G ⟨sG, hD⟩ => ?_)
    · subst e eG
      have hc' : (formT s.w).cps.toList[i]? = some c := by simpa using hc
      have ht : upd G t (.tup [.int (i : Nat), .str ⟨#[c]⟩]) t = some (.tup [.int (i : Nat), .str ⟨#[c]⟩]) := upd_same
      have s1 : Same G (upd G t (.tup [.int (i : Nat), .str ⟨#[c]⟩])) := same_new nt
      have hD2 := s1 _ _ hD
      have s2 := sG.trans s1
      generalize upd G t (.tup [.int (i : Nat), .str ⟨#[c]⟩]) = G2 at ht s2 hD2
      refine ⟨t, _, rfl, SqT.of ht, rfl, _, _, rfl, _, _, rfl, rfl, rfl, _, rfl, rfl, _, rfl, ?_⟩
      rw [fc] at hc'
      by_cases hi2 : i < arP s.w
      · rw [List.getElem?_append_left (by rw [List.length_replicate]; exact hi2), List.getElem?_replicate_of_lt hi2] at hc'
        cases hc'
        have lt : i < s.el.length := by omega
        refine ifY (decide_eq_true (by decide +kernel)) ⟨_, rfl, _, rfl, _, _, rfl, rfl, ?_⟩
        have hv : s.vals[i + 2]? = some (.str s.el[i]) := by
          show (s.el.map V.str ++ s.nu.map V.int)[i]? = _
          rw [List.getElem?_append_left (by rw [List.length_map]; exact lt), List.getElem?_map, List.getElem?_eq_getElem lt]
          rfl
        refine (sq.up s2).ixI (k := i + 2) (by omega) hv ⟨_, hD2, by rw [List.length_map, List.length_take, sizeLine_eq]; have := ar4 s.w; omega, fun b o q => (upd_ne (ne_of_none q nD)).trans (s2 _ _ q), ?_⟩
        rw [upd_same, K2P.take_snoc (List.getElem?_eq_getElem lt), List.map_append]
        rfl
      · have cne : c ≠ 112 := by
          rw [List.getElem?_append_right (by rw [List.length_replicate]; omega)] at hc'
          split at hc'
          · have := List.mem_of_getElem? hc'
            simp at this
            omega
          · cases hc'
        refine ifN (decide_eq_false fun e => cne ?_) ⟨s2, ?_⟩
        · have z2 : (⟨#[c]⟩ : Str) = "p" := V.str.inj e
          have z3 := congrArg (fun y : Str => y.cps.toList) z2
          have z4 : [c] = [112] := z3.trans (by decide +kernel)
          exact (List.cons.inj z4).1
        · rw [hD2, List.take_of_length_le (by omega), List.take_of_length_le (by omega)]
    · rw [List.take_of_length_le (by omega)] at hD
      exact .inl ⟨D, _, rfl, SqL.of hD, fun q nq => go q _ (sG.trans (same_new nq)) upd_same⟩
theorem ok_newunk {f : Addr} {fd : FuncData} (F : Fun K "new_unknowns" "new_unknowns" sNewUnk f fd) (T : KindTxt K mg) (S : StepTxt K w mg dF dU dL dM) : FnOk P w K mg base CX0 1 f fd ["step"] spNewUnk := by
  refine F.ok scNewUnk (fun vs H Q E h => ?_) (fun cdv A outer s H vs Q E hr h => ?_)
  · obtain ⟨x, s, rfl, _⟩ := h
    rfl
  · obtain ⟨x, s, rfl, ln, sq, go⟩ := h
    refine ⟨_, (pss_one (ps_ret (pe_tupleOf (by rfl) T.tuple (pe_lc (own := [("letter", 1)]) (g := (gName 1)) (tt := tYes) (te := (tUnk K)) rfl scNewUnk.nd (pi_str (pe_kget2 (pe_glob (v := .ref dU) (by rfl) S.gU rfl) (pe_ix ix_seq (pv 0) pe_int (fun _ _ => rfl)) pe_str ⟨rfl, rfl, rfl, rfl⟩)) (blkOk_by (own := [("letter", 1)]) (N := ["step", "letter"]) (sc := defScope sNewUnk) (by decide +kernel)) (fun _ _ _ _ _ => (pg_name (i := 1) scNewUnk.nd rfl (Or.inl rfl))) (fun _ _ _ _ _ => pts_nil) (fun _ _ _ _ _ => (pe_joined (.cons (pe_fmt (pv 1)) (.cons pe_str (.cons (pe_fmt (pe_ix ix_seq (pv 0) pe_int (fun _ _ => rfl))) .nil))))))))), ?_⟩
    have eu : (fnd [("free", V.str "xy"), ("slide", V.str "t")] (wdS s.w)).getD (.str "") = .str (unkT s.w) := by cases s.w <;> decide +kernel
    refine ⟨dU, _, rfl, S.tU, _, rfl, sq.ix (k := 0) rfl ⟨wdS s.w, rfl, unkT s.w, eu, fun D nD => ?_⟩⟩
    have sz := unk_size s.w
    refine lc_it (walk_str (z := unkT s.w)) (fun i G => Same H G ∧ G D = some (.lst (((newUnk s).take i).map V.str))) ⟨same_new nD, upd_same⟩ (fun _ _ _ _ => trivial) (fun i y G G' hi ⟨sG, hD⟩ ⟨e, c, hc, ev⟩ => ?_) (fun G ⟨sG, hD⟩ => ?_)
    · subst e ev
      have hc' : (unkT s.w).cps.toList[i]? = some c := by simpa using hc
      have hn : (newUnk s)[i]? = some (unkN s.nm c) := by
        unfold newUnk
        rw [List.getElem?_map, hc']
        rfl
      have sl : (sizeLine : Nat) = 16777216 := sizeLine_eq
      have l1 : (Str.empty ++ (⟨#[c]⟩ : Str)).length = 1 := by rw [strLen_append]; rfl
      have l2 : ("_" : Str).length = 1 := by decide +kernel
      refine ⟨rfl, _, rfl, .inl ⟨⟨#[c]⟩, rfl, by show 1 ≤ sizeLine; decide, _, rfl, by rw [l1, sl]; decide, _, rfl, by rw [strLen_append, l1, l2, sl]; decide, _, rfl, (sq.up sG).ix (k := 1) rfl (.inl ⟨s.nm, rfl, by rw [sl]; omega, _, rfl, by rw [strLen_append, strLen_append, l1, l2, sl]; omega, ?_⟩)⟩⟩
      refine ⟨_, hD, by rw [List.length_map, List.length_take, newUnk_len, sl]; have := ar2 s.w; omega, fun b o q => (upd_ne (ne_of_none q nD)).trans (sG _ _ q), ?_⟩
      rw [upd_same, K2P.take_snoc hn, List.map_append]
      rfl
    · have : (unkT s.w).cps.size = (newUnk s).length := by rw [newUnk_len, sz]
      rw [this, List.take_length] at hD
      exact .inl ⟨D, _, rfl, SqL.of hD, fun q nq => go q _ (sG.trans (same_new nq)) upd_same⟩
theorem cut_from (xs : List V) (j : Int) (k : Nat) (e : j = (k : Int)) : cutV xs (some j) none = xs.drop k := by
  subst e
  unfold cutV
  rw [HT.sIx_nat, HT.sIx_none]
  by_cases h : k ≤ xs.length
  · rw [Nat.min_eq_left h, List.take_of_length_le (by rw [List.length_drop]; exact Nat.le_refl _)]
  · rw [Nat.min_eq_right (by omega), Nat.sub_self, List.take_zero, List.drop_eq_nil_of_le (by omega)]
/-- [d[name] for name in names] -/
theorem lc_gets {σ : L2.St} {H : Hp} {D p d : Addr} {ns : List Str} {vs : List V} {kvs : List (Key × V)} {i j : Nat} {Qd : Hp → Prop} (nD : H D = none) (hp : H p = some (.tup (ns.map V.str))) (hd : H d = some (.dK kvs)) (hv : Paired (fun (x : Str) v => valV kvs (Sum.inr x : Key) = some v) ns vs) (l : ns.length ≤ 1000)
    (h1 : ∀ x, ((wipe σ [j]).set j (some x))[i]? = some (some (.ref d))) (h2 : ∀ x, ((wipe σ [j]).set j (some x))[j]? = some (some x)) (h3 : ∀ x, wipe ((wipe σ [j]).set j (some x)) [j] = wipe σ [j]) (done : ∀ G, Same H G → G D = some (.lst vs) → Qd G) :
    ∃ W : Nat → Nat → Hp → Prop, (∃ m, W 0 m (upd H D (.lst []))) ∧ ∀ k m H, W k m H → ((Itt K p).stop k H ∧ Qd H) ∨ ((Itt K p).go k H ∧ ∃ Nx : Hp → Prop, (∀ H', Nx H' → ∃ m', m' < m ∧ W (k + 1) m' H') ∧ ∀ v H', (Itt K p).yld k H v H' → gName j v (wipe σ [j]) H' fun σ2 H2 => wipe σ2 [j] = wipe σ [j] ∧ tYes σ2 H2 fun b H3 =>
      if b = true then (tDGet (tVar i) (tVar j)) σ2 H3 fun y H4 => ∃ acc, H4 D = some (.lst acc) ∧ acc.length < sizeLine ∧ Nx (upd H4 D (.lst (acc ++ [y]))) else Nx H3) := by
  have ll : vs.length = ns.length := (Paired.length hv).symm
  refine lc_it (walk_tup (K := K) (a := p) (xs := ns.map V.str)) (fun k G => Same H G ∧ G D = some (.lst (vs.take k))) ⟨same_new nD, upd_same⟩ (fun k G _ h => SqT.of (h.1 _ _ hp)) (fun k y G G' hi ⟨sG, hD⟩ ⟨e, hy⟩ => ?_) (fun G ⟨sG, hD⟩ => ?_)
  · subst e
    have hy : (ns.map V.str)[k]? = some y := hy
    rw [List.getElem?_map] at hy
    obtain ⟨x, hx, rfl⟩ := Option.map_eq_some_iff.mp hy
    have hk : k < vs.length := by rw [ll]; exact (List.getElem?_eq_some_iff.mp hx).1
    have gv := pair_get hv hx (List.getElem?_eq_getElem hk)
    refine ⟨h3 _, _, h1 _, _, h2 _, d, vs[k], rfl, ?_, _, hD, by rw [List.length_take, sizeLine_eq]; omega, fun b o q => (upd_ne (ne_of_none q nD)).trans (sG _ _ q), ?_⟩
    · have := DGet.k (k := (Sum.inr x : Key)) (sG _ _ hd)
      rw [gv] at this
      exact this
    · rw [upd_same, K2P.take_snoc (List.getElem?_eq_getElem hk)]
  · rw [List.length_map, ← ll, List.take_length] at hD
    exact done G sG hD
theorem tri_vals {H : Hp} {kvs : List (Key × V)} {tri : Str → Option P3} (h : ∀ x p, tri x = some p → ∃ v, valV kvs (Sum.inr x : Key) = some v ∧ TripE H v p) : ∀ ns : List Str, (∀ x ∈ ns, (tri x).isSome = true) →
    ∃ ts, Paired (fun (x : Str) v => valV kvs (Sum.inr x : Key) = some v) ns ts ∧ Paired (TripE H) ts (ns.map fun x => (tri x).getD (placedX (.num 0) (.num 0)))
  | [], _ => ⟨[], .nil, .nil⟩
  | x :: ns, hs => by
    obtain ⟨ts, h1, h2⟩ := tri_vals h ns fun y m => hs y (List.mem_cons_of_mem _ m)
    obtain ⟨p, hp⟩ := Option.isSome_iff_exists.mp (hs x List.mem_cons_self)
    obtain ⟨v, hv, tv⟩ := h x p hp
    refine ⟨v :: ts, .cons hv h1, ?_⟩
    rw [List.map_cons, hp]
    exact .cons tv h2
theorem varsX_succ (k n : Nat) : varsX k (n + 1) = .var k :: varsX (k + 1) n := by
  unfold varsX
  rw [List.range_succ_eq_map, List.map_cons, List.map_map]
  congr 1
  refine List.map_congr_left fun i _ => ?_
  show Px.var (k + (i + 1)) = Px.var (k + 1 + i)
  congr 1
  omega
theorem unk_vals {H : Hp} {kvs : List (Key × V)} : ∀ (ns : List Str) (k : Nat), (∀ (i : Nat) x, ns[i]? = some x → ∃ v, valV kvs (Sum.inr x : Key) = some v ∧ TabE H v (.var (k + i))) →
    ∃ ts, Paired (fun (x : Str) v => valV kvs (Sum.inr x : Key) = some v) ns ts ∧ Paired (TabE H) ts (varsX k ns.length)
  | [], k, _ => ⟨[], .nil, .nil⟩
  | x :: ns, k, h => by
    obtain ⟨v, hv, tv⟩ := h 0 x rfl
    obtain ⟨ts, h1, h2⟩ := unk_vals ns (k + 1) fun i y e => by
      obtain ⟨v, a, b⟩ := h (i + 1) y e
      exact ⟨v, a, by rw [show k + 1 + i = k + (i + 1) by omega]; exact b⟩
    refine ⟨v :: ts, .cons hv h1, ?_⟩
    rw [List.length_cons, varsX_succ]
    exact .cons tv h2
theorem pair_imp {α β : Type} {F G : α → β → Prop} (h : ∀ a b, F a b → G a b) : ∀ {l : List α} {m : List β}, Paired F l m → Paired G l m
  | _, _, .nil => .nil
  | _, _, .cons a r => .cons (h _ _ a) (pair_imp h r)
theorem ok_made {f : Addr} {fd : FuncData} (F : Fun K "made" "made" sMade f fd) (T : KindTxt K mg) (S : StepTxt K w mg dF dU dL dM) (MT : MakersT P w K mg base C dM mk) (UE : CallT P w K mg base CX0 1 "elders" ["step"] spElders fE dE) (UN : CallT P w K mg base CX0 1 "new_unknowns" ["step"] spNewUnk fN dN) : FnOk P w K mg base CX0 9 f fd ["ring", "step", "triples", "unknowns"] (spMade C) := by
  refine F.ok scMade (fun vs H Q E h => ?_) (fun cdv A outer s H vs Q E hr h => ?_)
  · obtain ⟨z, a, t, d, s, tri, us, rfl, _⟩ := h
    rfl
  · obtain ⟨z, a, t, d, s, tri, us, rfl, shp, ln, hring, ha, htri, hel, hunk, fi, go⟩ := h
    refine ⟨_, (pss_cons (ps_set (i := 4) scMade.nd rfl (Or.inl rfl) (pe_call UE.ok (hr.mono (by decide)) rfl UE.g UE.k UE.b .nil pass0 (pa_cons (pv 1) pa_nil)))
      (pss_cons (ps_setLc (i := 5) (own := [("name", 7)]) (g := (gName 7)) (tt := tYes) (te := (tDGet (tVar 2) (tVar 7))) rfl scMade.nd rfl rfl (sw_true rfl rfl rfl (by decide +kernel)) (pi_tup (pv 4)) (blkOk_by (own := [("name", 7)]) (N := ["ring", "step", "triples", "unknowns", "named", "found", "maker", "name"]) (sc := defScope sMade) (by decide +kernel)) (fun _ _ _ _ _ => (pg_name (i := 7) scMade.nd rfl (Or.inl rfl))) (fun _ _ _ _ _ => pts_nil) (fun _ _ _ _ _ => (pe_dget (hu1 hr) (pv 2) (pv 7) (fun _ _ => rfl))))
      (pss_cons (ps_set (i := 5) scMade.nd rfl (Or.inl rfl) (pe_op op_cat (pv 5) (pe_lc (own := [("name", 7)]) (g := (gName 7)) (tt := tYes) (te := (tDGet (tVar 3) (tVar 7))) rfl scMade.nd (pi_tup (pe_call UN.ok (hr.mono (by decide)) rfl UN.g UN.k UN.b .nil pass0 (pa_cons (pv 1) pa_nil))) (blkOk_by (own := [("name", 7)]) (N := ["ring", "step", "triples", "unknowns", "named", "found", "maker", "name"]) (sc := defScope sMade) (by decide +kernel)) (fun _ _ _ _ _ => (pg_name (i := 7) scMade.nd rfl (Or.inl rfl))) (fun _ _ _ _ _ => pts_nil) (fun _ _ _ _ _ => (pe_dget (hu1 hr) (pv 3) (pv 7) (fun _ _ => rfl))))))
      (pss_cons (ps_set (i := 5) scMade.nd rfl (Or.inl rfl) (pe_op op_cat (pv 5) (pe_callTy call_list_of (by rfl) T.list (by decide +kernel) (pa_cons (pe_slice sl_tupA (pv 1) (po_some (pe_op op_add pe_int (pe_callB call_len_seq (by rfl) T.len PySem.boot_len (pa_cons (pv 4) pa_nil)))) po_none) pa_nil))))
      (pss_cons (ps_set (i := 6) scMade.nd rfl (Or.inl rfl) (pe_ix ix_kdict (pe_glob (v := .ref dM) (by rfl) S.gM rfl) (pe_ix ix_seq (pv 1) pe_int (fun _ _ => rfl)) (fun _ _ => rfl)))
      (pss_one (ps_ret (pe_callAS (i := 6) (k := 8) (hr.mono (by decide)) rfl (Or.inl rfl) (pa_cons (pv 0) (StX.pa_star (pv 5) pa_nil)))))))))), ?_⟩
    refine ⟨_, rfl, _, s, rfl, shp, ⟨a, rfl, .inr ha⟩, fun p G sG hp => ?_⟩
    obtain ⟨kvs, hd, htr⟩ := htri.up sG
    obtain ⟨ts, v1, tp⟩ := tri_vals htr s.el hel
    have e4 := ar4 s.w
    have se := shp.el
    refine ⟨_, rfl, p, rfl, ⟨_, SqT.of hp⟩, fun D1 nD1 => lc_gets (i := 2) (j := 7) nD1 hp hd v1 (by omega) (fun _ => rfl) (fun _ => rfl) (fun _ => rfl) fun G1 s1 hD1 => ?_⟩
    have h1 := sG.trans s1
    refine ⟨_, rfl, _, rfl, _, s, rfl, ln, ⟨a, rfl, .inr (h1 _ _ ha)⟩, fun p2 G2 s2 hp2 => ?_⟩
    have h2 := h1.trans s2
    obtain ⟨kvs2, hd2, hu2⟩ := hunk.up h2
    obtain ⟨us2, v2, tu⟩ := unk_vals (H := G2) (newUnk s) us.length fun i x e => by
      have : (us ++ newUnk s)[us.length + i]? = some x := by
        rw [List.getElem?_append_right (by omega), show us.length + i - us.length = i by omega]
        exact e
      exact hu2 _ x this
    have nl := newUnk_len s
    have e2 := ar2 s.w
    refine ⟨p2, rfl, ⟨_, SqT.of hp2⟩, fun D2 nD2 => lc_gets (i := 3) (j := 7) nD2 hp2 hd2 v2 (by omega) (fun _ => rfl) (fun _ => rfl) (fun _ => rfl) fun G3 s3 hD3 => ?_⟩
    have lt : ts.length = s.el.length := (Paired.length v1).symm
    have lu : us2.length = (newUnk s).length := (Paired.length v2).symm
    refine ⟨D1, D2, ts, us2, rfl, rfl, s3 _ _ (s2 _ _ hD1), hD3, by rw [lt, lu, sizeLine_eq]; omega, fun D4 nD4 => ?_⟩
    have h4 := (h2.trans s3).trans (same_new (o := .lst (ts ++ us2)) nD4)
    have hD4 : upd G3 D4 (.lst (ts ++ us2)) D4 = some (.lst (ts ++ us2)) := upd_same
    have s14 := (s2.trans s3).trans (same_new (o := .lst (ts ++ us2)) nD4)
    have s24 := s3.trans (same_new (o := .lst (ts ++ us2)) nD4)
    generalize upd G3 D4 (.lst (ts ++ us2)) = G4 at h4 hD4 s14 s24
    have lv : s.vals.length = 2 + (s.el.length + s.nu.length) := by
      unfold Stp.vals Stp.mem
      rw [List.length_cons, List.length_cons, List.length_append, List.length_map, List.length_map]
      omega
    have dv : s.vals.drop (2 + s.el.length) = s.nu.map V.int := by
      show (V.str (wdS s.w) :: V.str s.nm :: (s.el.map V.str ++ s.nu.map V.int)).drop (2 + s.el.length) = _
      rw [show 2 + s.el.length = (s.el.length + 1) + 1 by omega, List.drop_succ_cons, List.drop_succ_cons, List.drop_append_of_le_length (by rw [List.length_map]; exact Nat.le_refl _), List.drop_eq_nil_of_le (by rw [List.length_map]; exact Nat.le_refl _), List.nil_append]
    refine ⟨_, rfl, _, rfl, _, rfl, p, _, rfl, .inr (SqT.of (s14 _ _ (s1 _ _ hp))), _, _, rfl, rfl, _, rfl, a, s.vals, rfl, SqT.of (h4 _ _ ha), fun wh => absurd wh.1 ?_, fun _ p5 n5 => ?_⟩
    · rw [List.length_map, show (2 : Int) + (s.el.length : Int) = ((2 + s.el.length : Nat) : Int) by omega, HT.sIx_nat, lv]
      omega
    rw [cut_from s.vals _ (2 + s.el.length) (by rw [List.length_map]; omega), dv]
    have s5 := same_new (o := .tup (s.nu.map V.int)) n5
    have hp5 : upd G4 p5 (.tup (s.nu.map V.int)) p5 = some (.tup (s.nu.map V.int)) := upd_same
    generalize upd G4 p5 (.tup (s.nu.map V.int)) = G5 at s5 hp5
    refine ⟨p5, _, rfl, .inr (SqT.of hp5), fun l6 n6 => ?_⟩
    have s6 := same_new (o := .lst (s.nu.map V.int)) n6
    have hl6 : upd G5 l6 (.lst (s.nu.map V.int)) l6 = some (.lst (s.nu.map V.int)) := upd_same
    generalize upd G5 l6 (.lst (s.nu.map V.int)) = G6 at s6 hl6
    have an := arN2 s.w
    have sn := shp.nu
    refine ⟨D4, l6, _, _, rfl, rfl, s6 _ _ (s5 _ _ hD4), hl6, by rw [List.length_append, List.length_map, lt, lu, sizeLine_eq]; omega, fun D7 n7 => ?_⟩
    have s7 := same_new (o := .lst ((ts ++ us2) ++ s.nu.map V.int)) n7
    have hD7 : upd G6 D7 (.lst ((ts ++ us2) ++ s.nu.map V.int)) D7 = some (.lst ((ts ++ us2) ++ s.nu.map V.int)) := upd_same
    generalize upd G6 D7 (.lst ((ts ++ us2) ++ s.nu.map V.int)) = G7 at s7 hD7
    have s47 := (s5.trans s6).trans s7
    have h7 := h4.trans s47
    refine ⟨_, rfl, SeqV.ix (k := 0) ⟨a, rfl, .inr (h7 _ _ ha)⟩ rfl ⟨dM, wdS s.w, .ref (mk s.w), rfl, rfl, MT.tab.dct (by rw [fnd_map]; show (wdOf (wdS s.w)).map _ = _; rw [wdOf_wdS]; rfl), ?_⟩⟩
    refine ⟨mk s.w, _, rfl, MT.held s.w, _, rfl, _, rfl, D7, _, rfl, .inr (SqL.of hD7), ?_⟩
    refine ⟨z, ts, us2, _, _, s.nu, ?_, hring.up h7, by rw [lt, se], pair_imp (fun _ _ h => TripE.up h (((s1.trans s14).trans s47))) tp, by rw [lu, nl], pair_imp (fun _ _ h => TabE.up h (s24.trans s47)) tu, sn, ?_, fun x G8 s8 tx => ?_⟩
    · rw [List.append_nil, List.append_assoc]
    · rw [nl]; exact fi
    · rw [nl] at tx
      exact go x G8 (h7.trans s8) tx
end
end CN

set_option Elab.async false
set_option linter.all false
set_option maxRecDepth 100000
set_option maxHeartbeats 4000000
set_option autoImplicit false
/-! f(k = v, ..) without positional values, where what is raised is wished for at the caller's slots. -/
namespace L2
open PySem PySem.Spec PyProof.Rows
def tKw (m : Nat) (sp : Sp) (gV : List V → List V → List V) (E : St → XK) (tk : TA) : TE := fun σ H Q => tk σ H fun zs G => zs.length = m ∧ sp (gV [] zs) G Q (E σ)
section
variable {X : Cx} {CX : CXT} {k n : Nat} {f : Addr} {fd : FuncData} {ps ks : List Str} {sp : Sp} {x : Str} {p pos : Pos} {kws : List Keyword} {tk : TA} {g : List Value → List Value → List Value} {gV : List V → List V → List V}
theorem run_kw {pins : List (Addr × Obj)} {σ : St} {H : Hp} {s : Shared} {Q : VK} {E : XK} {us ws : List Value} {vs zs : List V} (F : FnOk X.prog X.w X.K X.mg X.base CX k f fd ps sp) (hr : Room k X.A) (hb : KBn X.K fd ps n ks g gV)
    (hx : ∀ e s', CX X.stack H s E e s' → X.xe e s') (I : Inv X pins σ H s) (r : Vals vs us) (rz : Vals zs ws) (l1 : vs.length = n) (l2 : zs.length = ks.length) (h : sp (gV vs zs) H Q E) : wpAny (model X.prog X.w) X.A (call (.ref f) us (ks.zip ws)) (EP X pins σ Q) X.xe s := by
  have r2 := hb.rel r rz
  refine wpAny_call (codeAny_mono (F.run X.A X.stack s H ⟨us, ks.zip ws⟩ (g us ws) (gV vs zs) Q E hr I.env0 (hb.to s us ws I.kIn (r.length.symm.trans l1) (rz.length.symm.trans l2)) r2 h) fun r s' hq => ?_)
  cases r with
  | error e => exact hx e s' hq
  | ok fl =>
    cases fl with
    | ret u => exact I.after hq
    | next => exact False.elim hq
    | brk => exact False.elim hq
    | cont => exact False.elim hq
theorem pe_kw {E : St → XK} (F : FnOk X.prog X.w X.K X.mg X.base CX k f fd ps sp) (hr : Room k X.A) (hg : Gl X x) (hm : X.mg x = some (.ref f)) (kp : PySem.W.keepIn X.K (.ref f) = true) (hb : KBn X.K fd ps 0 ks g gV)
    (hx : ∀ (pins : List (Addr × Obj)) (σ : St) (H : Hp) (s : Shared) (e : Value) (s' : Shared), Inv X pins σ H s → CX X.stack H s (E σ) e s' → X.xe e s') (hkw : PK X kws tk)
    (hall : (backToKw pos (keywordEach kws X.env)).all (·.1.isSome) = true := by rfl) (hks : (backToKw pos (keywordEach kws X.env)).filterMap (·.1) = ks := by rfl) (hdb : (x == ("__debug__" : Str)) = false := by decide)
    (hpl : ((backTo pos (starEach [] X.env)).any (·.1) || (backToKw pos (keywordEach kws X.env)).any (·.1.isNone)) = false := by rfl) : PE X (.Call (.Name x p) [] kws pos) (tKw ks.length sp gV E tk) := ⟨fun pn s τ H Q I h => by
  refine wpAny_Call_Name_kw (ld_glob I hg hm ?_ hdb)
  refine PySem.W.callWith_KW0 (h₀ := X.base) I.ok.mod.kin kp hall (thn (hkw.run pos pn s τ H _ I h) fun ws s2 ⟨zs, G, I2, rz, l2, q2⟩ => ⟨I2.kIn, ?_⟩) hpl
  rw [hks]
  exact run_kw F hr hb (fun e s' c => hx pn τ G s2 e s' I2 c) I2 .nil rz rfl l2 q2⟩
end
theorem kw_one {K : PySem.W.Frag} {x qual : Str} {st : Stmt} {f : Addr} {fd : FuncData} {p : Str} (F : Fun K x qual st f fd)
    (h : ∀ (kV doc pm : Value) (an : Option Addr) (cdv ct a : Value), bindArgs (PySem.W.fnOf x qual (defArgs st) (defBody st) (defScope st) .none kV doc pm an cdv ct) ⟨[], [(p, a)]⟩ = pure [(p, a)]) : KBn K fd [p] 0 [p] (fun _ ws => ws) (fun _ zs => zs) := by
  obtain ⟨oc, od, kV, doc, pm, an, cdv, ct, osl, rfl, lk, hcd⟩ := F.ex
  refine ⟨fun s us ws X l1 l2 => ?_, fun _ r => r⟩
  match us, ws, l1, l2 with
  | [], [a], _, _ => exact .of_eq (h kV doc pm an cdv ct a)
theorem suite_hot {X : Cx} {a : Addr} {oe : Obj} {cls : Value} {d : Option Addr} {pn : List (Addr × Obj)} (hz : L2N.Zn cls d oe) (hf : ∃ vs, oe.data = .fields vs) : L2H.HotC (X.suite a ((a, oe) :: pn)) := by
  obtain ⟨vs, e⟩ := hf
  exact ⟨(a, oe), ⟨rfl, vs, e, hz.2.2 vs e⟩, List.mem_cons_self⟩
end L2

set_option Elab.async false
set_option linter.all false
set_option maxRecDepth 100000
set_option maxHeartbeats 4000000
set_option autoImplicit false
set_option pp.maxSteps 300
/-! A method's call where what is raised is wished for at the caller's slots; with keywords. Speaks of no program. -/
namespace L2
open PySem PySem.Spec PyProof.Rows
def tMethE (C : Addr) (m : Str) (sp : Sp) (E : St → XK) (ta : TE) (t : TA) : TE := fun σ H Q => ta σ H fun x H1 => ∃ a dx fs, x = .ref a ∧ H1 a = some (.ins C dx fs) ∧ fs.lookup m = none ∧ t σ H1 fun vs H2 => sp (x :: vs) H2 Q (E σ)
def tMethKw (C : Addr) (m : Str) (n : Nat) (sp : Sp) (gV : List V → List V → List V) (E : St → XK) (ta : TE) (tk : TA) : TE := fun σ H Q => ta σ H fun x H1 => ∃ a dx fs, x = .ref a ∧ H1 a = some (.ins C dx fs) ∧ fs.lookup m = none ∧ tk σ H1 fun zs H2 => zs.length = n ∧ sp (gV [x] zs) H2 Q (E σ)
section
variable {X : Cx} {CX : CXT} {k : Nat} {f C : Addr} {fd : FuncData} {ps ks : List Str} {sp : Sp} {E : St → XK} {x m : Str} {p pos apos : Pos} {e o : Expr} {es : List Expr} {ta : TE} {t tk : TA} {kws : List Keyword} {g : List Value → List Value → List Value} {gV : List V → List V → List V}
theorem pe_methE {pl : Sem Bool} (he : PE X o ta) (c : Cls X.K C) (hm : Meth X.K C m f) (F : FnOk X.prog X.w X.K X.mg X.base CX k f fd ps sp) (hr : Room k X.A) (hb : Binds X.K fd ps []) (hx : ∀ σ, PassesAt CX X σ (E σ)) (ha : PA X (e :: es) t)
    (hst : starEach (e :: es) X.env = (false, eval e X.env) :: starEach es X.env := by rfl) (hpl : (backTo pos (starEach es X.env)).any (·.1) = false := by rfl)
    (ht : eval (.Call (.Attribute o m apos) (e :: es) [] pos) X.env = (do
      let ov ← eval o X.env
      standAt apos.atName
      let (f, first) ← holding [ov] (getMethod ov m pl)
      callWith pos f first (backTo pos (starEach (e :: es) X.env)) (backToKw pos (keywordEach [] X.env))) := by rfl) :
    PE X (.Call (.Attribute o m apos) (e :: es) [] pos) (tMethE C m sp E ta t) := by
  refine ⟨fun pins s σ H Q I h => ?_⟩
  refine PySem.W.methodCall_KW (pl := pl) (thn (he.run pins s σ H _ I h) fun u s1 ⟨x, H1, I1, rx, a, dx, fs, ex, ea, l, q⟩ => ?_) ht
  subst ex
  obtain rfl : u = Value.ref a := rx
  refine getmeth_ok I1 ea c hm l ?_
  refine PySem.W.callWith_K (first := [.ref a]) (h₀ := X.base) I.ok.mod.kin hm.kp (thn (ha.run pos pins s1 σ H1 _ I1 q) fun us s2 ⟨vs, H2, I2, r, q2⟩ => ⟨I2.kIn, ?_⟩) hst hpl
  exact run_fnS (us := .ref a :: us) (vs := .ref a :: vs) F hr hb (hx σ) I2 (.cons rfl r) q2
theorem pe_methKw {pl : Sem Bool} (he : PE X o ta) (c : Cls X.K C) (hm : Meth X.K C m f) (F : FnOk X.prog X.w X.K X.mg X.base CX k f fd ps sp) (hr : Room k X.A) (hb : KBn X.K fd ps 1 ks g gV) (hx : ∀ σ, PassesAt CX X σ (E σ)) (hkw : PK X kws tk)
    (hall : (backToKw pos (keywordEach kws X.env)).all (·.1.isSome) = true := by rfl) (hks : (backToKw pos (keywordEach kws X.env)).filterMap (·.1) = ks := by rfl)
    (hpl : ((backTo pos (starEach [] X.env)).any (·.1) || (backToKw pos (keywordEach kws X.env)).any (·.1.isNone)) = false := by rfl)
    (ht : eval (.Call (.Attribute o m apos) [] kws pos) X.env = (do
      let ov ← eval o X.env
      standAt apos.atName
      let (f, first) ← holding [ov] (getMethod ov m pl)
      callWith pos f first (backTo pos (starEach [] X.env)) (backToKw pos (keywordEach kws X.env))) := by rfl) :
    PE X (.Call (.Attribute o m apos) [] kws pos) (tMethKw C m ks.length sp gV E ta tk) := by
  refine ⟨fun pins s σ H Q I h => ?_⟩
  refine PySem.W.methodCall_KW (pl := pl) (thn (he.run pins s σ H _ I h) fun u s1 ⟨x, H1, I1, rx, a, dx, fs, ex, ea, l, q⟩ => ?_) ht
  subst ex
  obtain rfl : u = Value.ref a := rx
  refine getmeth_ok I1 ea c hm l ?_
  refine PySem.W.callWith_KW0 (first := [.ref a]) (h₀ := X.base) I.ok.mod.kin hm.kp hall (thn (hkw.run pos pins s1 σ H1 _ I1 q) fun ws s2 ⟨zs, H2, I2, rz, l2, q2⟩ => ⟨I2.kIn, ?_⟩) hpl
  rw [hks]
  exact run_kw (us := [.ref a]) (vs := [.ref a]) F hr hb (fun e s' c => hx σ pins H2 s2 e s' I2 c) I2 (.cons rfl .nil) rz rfl l2 q2
end
/-! ### C() of a class without an __init__ of its own -/
structure Mk0 (K : PySem.W.Frag) (C : Addr) : Prop where
  makes : PySem.W.makesIn K C = true
  init : PySem.W.findIn K (.ref C) "__init__" = some (some (.builtin "object.__init__"))
  kp : PySem.W.keepIn K (.ref C) = true
def tMk0 (C : Addr) : TE := fun σ H Q => ∀ x dx, H x = none → H dx = none → dx ≠ x → Q (.ref x) (upd (upd H dx (.own x)) x (.ins C dx []))
section
variable {X : Cx} {C : Addr} {x : Str} {p pos : Pos}
theorem make_plain {K : PySem.W.Frag} {prog : Program} {w : World} {A : Around} {s : Shared} {R : Result → Shared → Prop} (X : K.In s.heap) (hm : PySem.W.makesIn K C = true) (hi : PySem.W.findIn K (.ref C) "__init__" = some (some (.builtin "object.__init__")))
    (h : R (.ok (.ret (.ref (s.heap.objs.size + 1)))) { s with heap := (s.heap.push PySem.W.emptyDict).push (PySem.W.instObj C s.heap.objs.size) }) : codeAny (model prog w) A (.call (.ref C) ⟨[], []⟩) R s := by
  obtain ⟨hh, g, d, t, os⟩ := s
  have Y := PySem.W.makes_of (M := model prog w) X hm
  refine PySem.W.make_core Y (PySem.W.looks_findIn X hi) (fun self => PySem.W.Looks.of_pure (PySem.W.oi_bind self)) (.inr ⟨rfl, rfl⟩) ?_
  have hx : ((hh.push PySem.W.emptyDict).push (PySem.W.instObj C hh.objs.size)).get? (hh.objs.size + 1) = some (PySem.W.instObj C hh.objs.size) := by
    have := Heap.get?_push_size (hh.push PySem.W.emptyDict) (o := PySem.W.instObj C hh.objs.size) rfl
    rwa [Heap.size_push] at this
  have t1 : PySem.W.Looks (model prog w) ((hh.push PySem.W.emptyDict).push (PySem.W.instObj C hh.objs.size)) (typeOf (.ref (hh.objs.size + 1))) (.ref C) := (PySem.W.Looks.ld hx).andThen .now
  have t2 : PySem.W.Looks (model prog w) ((hh.push PySem.W.emptyDict).push (PySem.W.instObj C hh.objs.size)) (isInstance (.ref (hh.objs.size + 1)) (.type "object")) true := t1.andThen (Y.top.keeps fun b o e => Heap.get?_push_of_some _ (Heap.get?_push_of_some _ e))
  refine codeAny_call_builtin PySem.W.oi_plain PySem.W.entry_oi (@PySem.W.check_slot (model prog w) _ _ _ "object.__init__" "object" "__init__" (.ref (hh.objs.size + 1)) [] [] _ PySem.W.oi_kind PySem.W.oi_split t2 (PySem.W.oi_args (.ref (hh.objs.size + 1))) ?_)
  rw [PySem.W.oi_run]
  exact wpAny_pure (And.intro rfl h)
theorem pe_makeP (M : Mk0 X.K C) (hg : Gl X x) (hm : X.mg x = some (.ref C)) (hdb : (x == ("__debug__" : Str)) = false := by decide) : PE X (.Call (.Name x p) [] [] pos) (tMk0 C) := by
  refine ⟨fun pins s σ H Q I h => ?_⟩
  refine wpAny_Call_Name_kw (ld_glob I hg hm ?_ hdb)
  refine PySem.W.callWith_K0 I.kIn M.kp (wpAny_call (make_plain I.kIn M.makes M.init ?_))
  exact ⟨.ref (s.heap.objs.size + 1), _, Inv.made (C := C) I, rfl, h _ _ (I.hok.fresh (Nat.le_succ _)) (I.hok.fresh (Nat.le_refl _)) (Nat.ne_of_lt (Nat.lt_succ_self _))⟩
end
end L2

set_option Elab.async false
set_option linter.all false
set_option maxRecDepth 100000
set_option maxHeartbeats 4000000
set_option autoImplicit false
set_option pp.maxSteps 300
/-! Construction._checked: a step, looked at. -/
namespace CN
open PySem L2 K1D K2P
open K4 (isNm)
/-- a step that may be put behind these points -/
structure Right (names : List Str) (s : Stp) : Prop where
  shp : s.Shp
  nm : isNm s.nm = true
  new : s.nm ∉ names
  el : ∀ x ∈ s.el, x ∈ names
  nu : ∀ (i : Nat) (k : Int), s.nu[i]? = some k → leastN (if i = 0 then 110 else 100) ≤ k ∧ k ≤ 100
theorem nm_len {x : Str} (h : isNm x = true) : x.length ≤ 4 := by
  unfold isNm at h
  rw [Bool.and_eq_true, Bool.and_eq_true] at h
  have := of_decide_eq_true h.1.2
  rw [lenT] at this
  exact this
theorem wrong_pts (names : List Str) (r : List Nat) (q : List V) : ∀ el : List Str, (∀ x ∈ el, x ∈ names) → wrongAt names (List.replicate el.length 112 ++ r) (el.map V.str ++ q) = (wrongAt names r q).map (· + el.length)
  | [], _ => by
    show wrongAt names r q = _
    cases wrongAt names r q <;> rfl
  | x :: el, h => by
    show (if memV names 112 (V.str x) = true then (wrongAt names (List.replicate el.length 112 ++ r) (el.map V.str ++ q)).map (· + 1) else some 0) = _
    have m : memV names 112 (V.str x) = true := by
      show decide (x ∈ names) = true
      exact decide_eq_true (h x List.mem_cons_self)
    rw [if_pos m, wrong_pts names r q el fun y hy => h y (List.mem_cons_of_mem _ hy), Option.map_map]
    congr 1
theorem Right.none {names : List Str} {s : Stp} (h : Right names s) : wrongAt names (formT s.w).cps.toList s.mem = none := by
  rw [form_cps, ← h.shp.el]
  unfold Stp.mem
  rw [wrong_pts names _ _ s.el h.el]
  have hn := h.shp.nu
  by_cases a : arN s.w = 2
  · rw [if_pos a]
    rw [a] at hn
    match hs : s.nu, hn with
    | [n, d], _ =>
      have h0 := h.nu 0 n (by rw [hs]; rfl)
      have h1 := h.nu 1 d (by rw [hs]; rfl)
      have m0 : memV names 110 (V.int n) = true := by
        show (decide (leastN 110 ≤ n) && decide (n ≤ 100)) = true
        rw [decide_eq_true (show leastN 110 ≤ n from h0.1), decide_eq_true h0.2]; rfl
      have m1 : memV names 100 (V.int d) = true := by
        show (decide (leastN 100 ≤ d) && decide (d ≤ 100)) = true
        rw [decide_eq_true (show leastN 100 ≤ d from h1.1), decide_eq_true h1.2]; rfl
      show ((if memV names 110 (V.int n) = true then (if memV names 100 (V.int d) = true then Option.map (· + 1) Option.none else some 0).map (· + 1) else some 0).map (· + s.el.length)) = Option.none
      rw [if_pos m0, if_pos m1]
      rfl
  · rw [if_neg a]
    rfl
theorem Stp.Shp.formed {s : Stp} (h : s.Shp) : formedL s.vals = true := by
  show formedL (V.str (wdS s.w) :: V.str s.nm :: s.mem) = true
  unfold formedL
  dsimp only
  rw [wdOf_wdS]
  refine decide_eq_true ?_
  unfold Stp.mem
  rw [List.length_cons, List.length_append, List.length_map, List.length_map, h.el, h.nu]
  omega
def inN (names : List Str) : V → Bool | .str x => decide (x ∈ names) | _ => false
/-- the first wrong member of what has the form of a sequence -/
def chkAt (names : List Str) (us : List V) : Option Nat :=
  if formedL us = true then (match us with
    | .str z :: u :: ms => if (nmV u && !inN names u) = true then (match wdOf z with
      | some wd => (wrongAt names (formT wd).cps.toList ms).map (2 + ·)
      | none => some 0) else some 1
    | _ => some 0) else some 0
theorem Right.chk {names : List Str} {s : Stp} (h : Right names s) : chkAt names s.vals = Option.none := by
  unfold chkAt
  rw [if_pos h.shp.formed]
  show (if (isNm s.nm && !decide (s.nm ∈ names)) = true then (match wdOf (wdS s.w) with
      | some wd => (wrongAt names (formT wd).cps.toList s.mem).map (2 + ·)
      | Option.none => some 0) else some 1) = Option.none
  rw [h.nm, decide_eq_false h.new, if_pos (by rfl), wdOf_wdS]
  dsimp only
  rw [h.none]
  rfl
theorem formed_inv {us : List V} (h : formedL us = true) : ∃ wd u ms, us = .str (wdS wd) :: u :: ms ∧ ms.length = arP wd + arN wd := by
  unfold formedL at h
  split at h
  · rename_i x r
    split at h
    · rename_i d hd
      have l := of_decide_eq_true h
      match r, l with
      | u :: ms, l => exact ⟨d, u, ms, by rw [wdOf_eq hd], by rw [List.length_cons] at l; omega⟩
      | [], l => simp at l; omega
    · cases h
  · cases h
abbrev sChk : Stmt := inClass (K2P.top 60) 2
def spChk (C CS : Addr) : Sp := fun vs H Q E => ∃ (p dx t : Addr) (fs : List (Str × V)) (x : V) (names : List Str), vs = [.ref p, x] ∧ H p = some (.ins C dx fs) ∧ fs.lookup ("_triples" : Str) = some (.ref t) ∧ NamesD H t names ∧
  ((NoSeq x ∧ Raises CS "at" (.int 0) H E) ∨ ∃ us, SeqV H x us ∧ Pls H us ∧ us.length < 1000000 ∧ (∀ k, chkAt names us = some k → Raises CS "at" (.int ((k : Nat) : Int)) H E) ∧
    (chkAt names us = none → ∀ (a : Addr) (G : Hp), Same H G → G a = some (.tup us) → Q (.ref a) G))
/-- what the written part says of the class -/
structure ConTxt (K : PySem.W.Frag) (mg : Str → Option Value) (C : Addr) : Prop where
  cl : Cls K C
  nS : NoAttr K C "_steps"
  nU : NoAttr K C "_unknowns"
  nT : NoAttr K C "_triples"
  gC : mg "Construction" = some (.ref C)
theorem wrong_le : ∀ {names : List Str} {cs : List Nat} {us : List V} {k : Nat}, wrongAt names cs us = some k → k < us.length
  | names, [], us, k, h => by cases us <;> cases h
  | names, c :: cs, [], k, h => by cases h
  | names, c :: cs, u :: us, k, h => by
    unfold wrongAt at h
    split at h
    · obtain ⟨j, hj, rfl⟩ := Option.map_eq_some_iff.mp h
      have := wrong_le hj
      rw [List.length_cons]
      omega
    · cases h
      rw [List.length_cons]
      omega
section
variable {P : Program} {w : World} {K : PySem.W.Frag} {mg : Str → Option Value} {base : Heap} {C CS B fI fF fN fW : Addr} {dI dF dN dW : FuncData}
theorem scChk : FnScope ["self", "step", "at"] ["self", "step"] (defScope sChk) := ⟨rfl, rfl, rfl, by decide +kernel, rfl, by decide +kernel, by decide +kernel⟩
theorem ok_chk {f : Addr} {fd : FuncData} (F : Fun K "_checked" "Construction._checked" sChk f fd) (T : KindTxt K mg) (CT : ConTxt K mg C) (BS : ErrT P w K mg base "BadStep" "at" B CS fI dI)
    (UF : CallT P w K mg base CX0 2 "is_formed" ["step"] spFormed fF dF) (UN : CallT P w K mg base CX0 1 "is_name" ["thing"] spIsName fN dN) (UW : CallT P w K mg base CX0 3 "wrong_behind_name" ["step", "points"] spWrong fW dW) :
    FnOk P w K mg base (L2N.CX P w) 4 f fd ["self", "step"] (spChk C CS) := by
  refine okN F scChk (fun vs H Q E h => ?_) (fun cdv A outer s H vs Q E hr h => ?_)
  · obtain ⟨p, dx, t, fs, x, names, rfl, _⟩ := h
    rfl
  · obtain ⟨p, dx, t, fs, x, names, rfl, hp, lt, nd, h⟩ := h
    refine ⟨_, (pss_cons (ps_if (pt_not (pt_val (pe_call UF.ok (hr.mono (by decide)) rfl UF.g UF.k UF.b .nil pass0 (pa_cons (pv 1) pa_nil)))) (pss_one (L2N.ps_raise rfl (L2N.takes_of rfl rfl rfl rfl) (pmk_err BS.err BS.iC BS.tI BS.ini (hr.mono (by decide)) BS.bd pass0 rfl BS.gC (pa_cons pe_int pa_nil)))) pss_nil)
      (pss_cons (ps_if (PW.pt (pw_or (pt_not (pt_val (pe_call UN.ok (hr.mono (by decide)) rfl UN.g UN.k UN.b .nil pass0 (pa_cons (pe_ix ix_seq (pv 1) pe_int (fun _ _ => rfl)) pa_nil)))) (pw_or1 (pt_cmp (pc_din (hu1 hr) (pe_ix ix_seq (pv 1) pe_int (fun _ _ => rfl)) (pe_fld (pv 0) rfl)))))) (pss_one (L2N.ps_raise rfl (L2N.takes_of rfl rfl rfl rfl) (pmk_err BS.err BS.iC BS.tI BS.ini (hr.mono (by decide)) BS.bd pass0 rfl BS.gC (pa_cons pe_int pa_nil)))) pss_nil)
      (pss_cons (ps_set (i := 2) scChk.nd rfl (Or.inl rfl) (pe_call UW.ok (hr.mono (by decide)) rfl UW.g UW.k UW.b .nil pass0 (pa_cons (pv 1) (pa_cons (pe_fld (pv 0) rfl) pa_nil))))
      (pss_cons (ps_if (pt_cmpR op_notN (pv 2) pe_non (by rfl)) (pss_one (L2N.ps_raise rfl (L2N.takes_of rfl rfl rfl rfl) (pmk_err BS.err BS.iC BS.tI BS.ini (hr.mono (by decide)) BS.bd pass0 rfl BS.gC (pa_cons (pv 2) pa_nil)))) pss_nil)
      (pss_one (ps_ret (pe_tupleOf (by rfl) T.tuple (pv 1)))))))), ?_⟩
    rcases h with ⟨ns, rz⟩ | ⟨us, sq, pl, lu, bad, go⟩
    · refine ⟨_, rfl, x, false, rfl, .inl ⟨ns, rfl⟩, fun G sG => ⟨_, rfl, ifY rfl ?_⟩⟩
      exact err_fin BS (.int 0 (by decide)) (rz.up sG)
    · refine ⟨_, rfl, x, formedL us, rfl, .inr ⟨us, sq, pl, lu, rfl⟩, fun G sG => ⟨_, rfl, ?_⟩⟩
      cases hf : formedL us with
      | false =>
        refine ifY rfl ?_
        have e : chkAt names us = some 0 := by unfold chkAt; rw [hf]; rfl
        exact err_fin BS (.int 0 (by decide)) ((bad 0 e).up sG)
      | true =>
        refine ifN rfl ?_
        obtain ⟨wd, u, ms, rfl, lm⟩ := formed_inv hf
        have ce : chkAt names (.str (wdS wd) :: u :: ms) = if (nmV u && !inN names u) = true then (wrongAt names (formT wd).cps.toList ms).map (2 + ·) else some 1 := by
          unfold chkAt
          rw [if_pos hf]
          show (if (nmV u && !inN names u) = true then (match wdOf (wdS wd) with
            | some wd => (wrongAt names (formT wd).cps.toList ms).map (2 + ·)
            | none => some 0) else some 1) = _
          rw [wdOf_wdS]
        have pu := (pl u (List.mem_cons_of_mem _ List.mem_cons_self)).up sG
        have nd1 := nd.up sG
        refine ⟨_, rfl, (sq.up sG).ix (k := 1) rfl ⟨u, rfl, pu, fun G2 s2 => ⟨_, rfl, ?_⟩⟩⟩
        have h2 := sG.trans s2
        cases hn : nmV u with
        | false =>
          refine ifY rfl ?_
          rw [hn] at ce
          exact err_fin BS (.int 1 (by decide)) ((bad 1 ce).up h2)
        | true =>
          refine ifN rfl ?_
          cases u with
          | str y =>
            obtain ⟨kvs, hd, hk⟩ := nd1
            refine ⟨_, rfl, (sq.up h2).ix (k := 1) rfl ⟨_, rfl, p, C, dx, fs, _, rfl, h2 _ _ hp, CT.cl, CT.nT, lt, t, _, rfl, DGet.k (k := eS y) (s2 _ _ hd), ?_⟩⟩
            rw [show (valV kvs (eS y)).isSome = decide (y ∈ names) from hk y]
            rw [hn] at ce
            refine ⟨_, rfl, ?_⟩
            by_cases hy : y ∈ names
            · refine ifY (decide_eq_true hy) ?_
              have ce1 : chkAt names (.str (wdS wd) :: .str y :: ms) = some 1 := by
                rw [ce]
                show (if (true && !decide (y ∈ names)) = true then _ else some 1) = some 1
                rw [decide_eq_true hy]
                rfl
              exact err_fin BS (.int 1 (by decide)) ((bad 1 ce1).up h2)
            · refine ifN (decide_eq_false hy) ?_
              have ce1 : chkAt names (.str (wdS wd) :: .str y :: ms) = (wrongAt names (formT wd).cps.toList ms).map (2 + ·) := by
                rw [ce]
                show (if (true && !decide (y ∈ names)) = true then _ else some 1) = _
                rw [decide_eq_false hy]
                rfl
              have pm : Pls H ms := fun z m => pl z (List.mem_cons_of_mem _ (List.mem_cons_of_mem _ m))
              refine ⟨_, rfl, _, rfl, p, C, dx, fs, _, rfl, h2 _ _ hp, CT.cl, CT.nT, lt, x, t, names, ms, .non, .str y, wd, rfl, sq.up h2, lm, pm.up h2, nd.up h2, fun G3 s3 => ?_⟩
              have h3 := h2.trans s3
              cases hw : wrongAt names (formT wd).cps.toList ms with
              | none =>
                rw [hw] at ce1
                refine ⟨_, rfl, rfl, _, rfl, ifN (by decide) ?_⟩
                obtain ⟨a, rfl, hsq⟩ := sq.up h3
                refine ⟨_, rfl, ?_⟩
                rcases hsq with hl | ht
                · exact .inl ⟨a, _, rfl, SqL.of hl, fun q nq => go ce1 q _ (h3.trans (same_new nq)) upd_same⟩
                · exact .inr ⟨a, _, rfl, SqT.of ht, go ce1 a _ h3 ht⟩
              | some k =>
                rw [hw] at ce1
                have lk := wrong_le hw
                have a4 := ar4 wd
                have n2 := arN2 wd
                refine ⟨_, rfl, rfl, _, rfl, ifY (by rw [decide_eq_false (fun z => by cases z)]; rfl) ⟨_, rfl, ?_⟩⟩
                exact err_fin BS (.int (2 + k) (by omega)) ((bad (2 + k) ce1).up h3)
          | _ => cases hn
end
end CN

set_option Elab.async false
set_option linter.all false
set_option maxRecDepth 100000
set_option maxHeartbeats 4000000
set_option autoImplicit false
set_option pp.maxSteps 300
/-! A construction as it stands in the heap. -/
namespace CN
open PySem L2 K1D K2P
open K4 (isNm)
structure Own where
  p : Addr
  s : Addr
  u : Addr
  t : Addr
structure Cst where
  steps : List Stp
  unk : List Str
  tri : List (Str × P3)
def Cst.names (c : Cst) : List Str := c.tri.map (·.1)
def Cst.pt (c : Cst) (x : Str) : Option P3 := (c.tri.find? fun e => decide (e.1 = x)).map (·.2)
def Cst.mk3 (c : Cst) (s : Stp) : P3 := s.mk3 c.pt c.unk.length
def Cst.add (c : Cst) (s : Stp) : Cst := ⟨c.steps ++ [s], c.unk ++ newUnk s, c.tri ++ [(s.nm, c.mk3 s)]⟩
def Cst.new : Cst := ⟨[], [], []⟩
def StepAt (H : Hp) (v : V) (s : Stp) : Prop := ∃ a, v = .ref a ∧ H a = some (.tup s.vals)
def cF (o : Own) : List (Str × V) := [("_steps", .ref o.s), ("_unknowns", .ref o.u), ("_triples", .ref o.t)]
def TriAt (H : Hp) (kvs : List (Key × V)) (tri : List (Str × P3)) : Prop := Paired (fun kv e => kv.1 = (Sum.inr e.1 : Key) ∧ TripE H kv.2 e.2) kvs tri
structure ConAt (C : Addr) (H : Hp) (o : Own) (c : Cst) : Prop where
  ob : ∃ dx, H o.p = some (.ins C dx (cF o))
  st : ∃ vs, H o.s = some (.lst vs) ∧ Paired (StepAt H) vs c.steps
  un : H o.u = some (.lst (c.unk.map V.str))
  tr : ∃ kvs, H o.t = some (.dK kvs) ∧ TriAt H kvs c.tri
  su : o.s ≠ o.u
/-- what a row of steps gives -/
structure Cok (c : Cst) : Prop where
  nd : c.names.Nodup
  nm : c.names = c.steps.map (·.nm)
  un : c.unk = c.steps.flatMap newUnk
  st : ∀ s ∈ c.steps, s.Shp ∧ isNm s.nm = true
  len : c.steps.length ≤ 12
  ul : c.unk.length ≤ 8
theorem f_steps {o : Own} : (cF o).lookup ("_steps" : Str) = some (.ref o.s) := by
  unfold cF
  simp [List.lookup]
theorem f_unk {o : Own} : (cF o).lookup ("_unknowns" : Str) = some (.ref o.u) := by
  have h : (("_unknowns" : Str) == "_steps") = false := by decide +kernel
  unfold cF
  simp [List.lookup, h]
theorem f_tri {o : Own} : (cF o).lookup ("_triples" : Str) = some (.ref o.t) := by
  have h : (("_triples" : Str) == "_steps") = false := by decide +kernel
  have h2 : (("_triples" : Str) == "_unknowns") = false := by decide +kernel
  unfold cF
  simp [List.lookup, h, h2]
theorem f_none {o : Own} {m : Str} (h : (m == ("_steps" : Str)) = false) (h1 : (m == ("_unknowns" : Str)) = false) (h2 : (m == ("_triples" : Str)) = false) : (cF o).lookup m = none := by
  unfold cF
  simp [List.lookup, h, h1, h2]
theorem put_unk {o : Own} (u : Addr) : putF "_unknowns" (.ref u) (cF o) = cF ⟨o.p, o.s, u, o.t⟩ := by
  have n1 : ¬ (("_steps" : Str) = "_unknowns") := by decide +kernel
  show (if ("_steps" : Str) = "_unknowns" then _ else (("_steps" : Str), V.ref o.s) :: (if ("_unknowns" : Str) = "_unknowns" then (("_unknowns" : Str), V.ref u) :: [(("_triples" : Str), V.ref o.t)] else _)) = _
  rw [if_neg n1, if_pos rfl]
  rfl
theorem StepAt.up {H G : Hp} {v : V} {s : Stp} (h : StepAt H v s) (sG : Same H G) : StepAt G v s := by
  obtain ⟨a, e, h⟩ := h
  exact ⟨a, e, sG _ _ h⟩
theorem ConAt.up {C : Addr} {H G : Hp} {o : Own} {c : Cst} (h : ConAt C H o c) (s : Same H G) : ConAt C G o c := by
  obtain ⟨⟨dx, h0⟩, ⟨vs, h1, h2⟩, h3, ⟨kvs, h4, h5⟩, ne⟩ := h
  exact ⟨⟨dx, s _ _ h0⟩, ⟨vs, s _ _ h1, pair_imp (fun _ _ q => q.up s) h2⟩, s _ _ h3, ⟨kvs, s _ _ h4, pair_imp (fun _ _ q => ⟨q.1, q.2.up s⟩) h5⟩, ne⟩
/-! what is changed -/
def Chg (D : List Addr) (H G : Hp) : Prop := ∀ b x, H b = some x → b ∉ D → G b = some x
/-- at these addresses stand no tuples, no tables -/
def Loose (D : List Addr) (H : Hp) : Prop := ∀ d ∈ D, (∀ xs, H d ≠ some (.tup xs)) ∧ ∀ v e, TabE H v e → v ≠ .ref d
theorem TabE.chg {D : List Addr} {H G : Hp} {v : V} {e : Px} (h : TabE H v e) (c : Chg D H G) (l : Loose D H) : TabE G v e := by
  have h0 := h
  obtain ⟨d, T, e1, ⟨h1, h2⟩, h3⟩ := h
  refine ⟨d, T, e1, ⟨c _ _ h1 fun m => (l d m).2 v e h0 e1, h2⟩, h3⟩
theorem TripE.chg {D : List Addr} {H G : Hp} {v : V} {p : P3} (h : TripE H v p) (c : Chg D H G) (l : Loose D H) : TripE G v p := by
  obtain ⟨t, u0, u1, u2, e, h0, h1, h2, h3⟩ := h
  exact ⟨t, u0, u1, u2, e, c _ _ h0 fun m => (l t m).1 _ h0, h1.chg c l, h2.chg c l, h3.chg c l⟩
theorem StepAt.chg {D : List Addr} {H G : Hp} {v : V} {s : Stp} (h : StepAt H v s) (c : Chg D H G) (l : Loose D H) : StepAt G v s := by
  obtain ⟨a, e, h⟩ := h
  exact ⟨a, e, c _ _ h fun m => (l a m).1 _ h⟩
theorem ConAt.chg {C : Addr} {D : List Addr} {H G : Hp} {o : Own} {c : Cst} (h : ConAt C H o c) (g : Chg D H G) (l : Loose D H) (n : o.p ∉ D ∧ o.s ∉ D ∧ o.u ∉ D ∧ o.t ∉ D) : ConAt C G o c := by
  obtain ⟨⟨dx, h0⟩, ⟨vs, h1, h2⟩, h3, ⟨kvs, h4, h5⟩, ne⟩ := h
  exact ⟨⟨dx, g _ _ h0 n.1⟩, ⟨vs, g _ _ h1 n.2.1, pair_imp (fun _ _ q => q.chg g l) h2⟩, g _ _ h3 n.2.2.1, ⟨kvs, g _ _ h4 n.2.2.2, pair_imp (fun _ _ q => ⟨q.1, q.2.chg g l⟩) h5⟩, ne⟩
/-- a dict that bears a text's key is no table -/
theorem text_loose {H : Hp} {t : Addr} {kvs : List (Key × V)} {x : Str} {v : V} (ht : H t = some (.dK ((Sum.inr x, v) :: kvs))) : ∀ w e, TabE H w e → w ≠ .ref t := fun w e h z => by
  obtain ⟨d, T, e1, ⟨h1, h2⟩, h3⟩ := h
  rw [e1] at z
  cases z
  rw [ht] at h1
  cases T with
  | nil => cases h1
  | cons a T => cases h1
theorem ConAt.loose {C : Addr} {H : Hp} {o : Own} {c : Cst} (h : ConAt C H o c) (ne : c.tri ≠ []) : Loose [o.p, o.s, o.t] H := by
  obtain ⟨⟨dx, h0⟩, ⟨vs, h1, h2⟩, h3, ⟨kvs, h4, h5⟩, _⟩ := h
  intro d m
  rcases List.mem_cons.mp m with rfl | m
  · exact ⟨fun xs q => (by rw [h0] at q; cases q), fun v e ⟨d, T, e1, ⟨h1, _⟩, _⟩ z => (by rw [e1] at z; cases z; rw [h0] at h1; cases h1)⟩
  rcases List.mem_cons.mp m with rfl | m
  · exact ⟨fun xs q => (by rw [h1] at q; cases q), fun v e ⟨d, T, e1, ⟨h2, _⟩, _⟩ z => (by rw [e1] at z; cases z; rw [h1] at h2; cases h2)⟩
  · obtain rfl := List.mem_singleton.mp m
    refine ⟨fun xs q => (by rw [h4] at q; cases q), ?_⟩
    generalize c.tri = tri at h5 ne
    cases h5 with
    | nil => exact absurd rfl ne
    | @cons a b l1 l2 f r =>
      obtain ⟨k, v⟩ := a
      have : k = Sum.inr b.1 := f.1
      subst this
      exact text_loose h4
/-! names, points -/
theorem tri_val {H : Hp} : ∀ {kvs : List (Key × V)} {tri : List (Str × P3)}, TriAt H kvs tri → ∀ x : Str, (∃ e v, tri.find? (fun e => decide (e.1 = x)) = some e ∧ valV kvs (Sum.inr x : Key) = some v ∧ TripE H v e.2) ∨ (tri.find? (fun e => decide (e.1 = x)) = none ∧ valV kvs (Sum.inr x : Key) = none)
  | _, _, .nil, x => .inr ⟨rfl, rfl⟩
  | _, _, .cons (a := (k, v)) (b := e) (l₁ := kvs) (l₂ := tri) f r, x => by
    obtain ⟨f1, f2⟩ := f
    have f1 : k = Sum.inr e.1 := f1
    subst f1
    by_cases h : e.1 = x
    · subst h
      exact .inl ⟨e, v, by rw [List.find?_cons, decide_eq_true rfl], valV_pos rfl, f2⟩
    · have e1 : valV ((Sum.inr e.1, v) :: kvs) (Sum.inr x : Key) = valV kvs (Sum.inr x : Key) := valV_neg fun q => h (Sum.inr.inj q)
      rw [e1, List.find?_cons, decide_eq_false h]
      exact tri_val r x
theorem find_mem {tri : List (Str × P3)} {x : Str} : (tri.find? fun e => decide (e.1 = x)).isSome = decide (x ∈ tri.map (·.1)) := by
  cases h : tri.find? fun e => decide (e.1 = x) with
  | some e =>
    have h1 := List.mem_of_find?_eq_some h
    have h2 := List.find?_some h
    have h3 : e.1 = x := of_decide_eq_true h2
    exact (decide_eq_true (List.mem_map.mpr ⟨e, h1, h3⟩)).symm
  | none =>
    refine (decide_eq_false fun m => ?_).symm
    obtain ⟨e, me, q⟩ := List.mem_map.mp m
    have := List.find?_eq_none.mp h e me
    exact this (decide_eq_true q)
theorem ConAt.namesD {C : Addr} {H : Hp} {o : Own} {c : Cst} (h : ConAt C H o c) : NamesD H o.t c.names := by
  obtain ⟨kvs, h4, h5⟩ := h.tr
  refine ⟨kvs, h4, fun x => ?_⟩
  have e : (c.tri.find? fun e => decide (e.1 = x)).isSome = decide (x ∈ c.names) := find_mem
  rcases tri_val h5 x with ⟨e1, v, a, b, _⟩ | ⟨a, b⟩
  · rw [a] at e; rw [b, ← e]; rfl
  · rw [a] at e; rw [b, ← e]; rfl
theorem ConAt.trisD {C : Addr} {H : Hp} {o : Own} {c : Cst} (h : ConAt C H o c) : TrisD H o.t c.pt := by
  obtain ⟨kvs, h4, h5⟩ := h.tr
  refine ⟨kvs, h4, fun x p e => ?_⟩
  rcases tri_val h5 x with ⟨e1, v, a, b, t⟩ | ⟨a, b⟩
  · unfold Cst.pt at e
    rw [a] at e
    cases e
    exact ⟨v, b, t⟩
  · unfold Cst.pt at e
    rw [a] at e
    cases e
theorem pt_some {c : Cst} {x : Str} (h : x ∈ c.names) : (c.pt x).isSome = true := by
  have e : (c.tri.find? fun e => decide (e.1 = x)).isSome = decide (x ∈ c.names) := find_mem
  unfold Cst.pt
  rw [Option.isSome_map, e]
  exact decide_eq_true h
theorem TriAt.keys {H : Hp} {kvs : List (Key × V)} {tri : List (Str × P3)} (h : TriAt H kvs tri) : kvs.map (fun kv => kV kv.1) = (tri.map (·.1)).map V.str := by
  induction h with
  | nil => rfl
  | @cons a b l1 l2 f r ih =>
    obtain ⟨k, v⟩ := a
    have f1 : k = Sum.inr b.1 := f.1
    subst f1
    rw [List.map_cons, List.map_cons, List.map_cons, ih]
    rfl
/-! unknowns -/
theorem unkN_tl (x : Str) (c : Nat) : TL.tl (unkN x c) = c :: 95 :: TL.tl x := by
  unfold unkN
  rw [TL.tl_append, TL.tl_append, TL.tl_append]
  rfl
theorem tl_ext {a b : Str} (h : TL.tl a = TL.tl b) : a = b := by
  obtain ⟨⟨x⟩⟩ := a
  obtain ⟨⟨y⟩⟩ := b
  have : x = y := h
  rw [this]
theorem unkN_inj {a b : Str} {c d : Nat} (h : unkN a c = unkN b d) : a = b ∧ c = d := by
  have e := congrArg TL.tl h
  rw [unkN_tl, unkN_tl] at e
  injection e with e1 e2
  injection e2 with e3 e4
  exact ⟨tl_ext e4, e1⟩
theorem unkT_nd : ∀ d : Wd, (unkT d).cps.toList.Nodup := by intro d; cases d <;> decide +kernel
theorem newUnk_nd (s : Stp) : (newUnk s).Nodup := List.Pairwise.map _ (fun _ _ n q => n (unkN_inj q).2) (unkT_nd s.w)
theorem mem_newUnk {s : Stp} {x : Str} (h : x ∈ newUnk s) : ∃ c, x = unkN s.nm c := by
  obtain ⟨c, _, e⟩ := List.mem_map.mp h
  exact ⟨c, e.symm⟩
theorem unk_nodup : ∀ {l : List Stp}, (l.map (·.nm)).Nodup → (l.flatMap newUnk).Nodup
  | [], _ => List.nodup_nil
  | s :: l, h => by
    have nd := List.nodup_cons.mp h
    rw [List.flatMap_cons]
    refine List.nodup_append.mpr ⟨newUnk_nd s, unk_nodup nd.2, fun a ha b hb e => ?_⟩
    obtain ⟨c, ec⟩ := mem_newUnk ha
    obtain ⟨s2, m2, hb2⟩ := List.mem_flatMap.mp hb
    obtain ⟨c2, ec2⟩ := mem_newUnk hb2
    have := (unkN_inj (ec.symm.trans (e.trans ec2))).1
    exact nd.1 (List.mem_map.mpr ⟨s2, m2, this.symm⟩)
theorem Cok.new : Cok Cst.new := ⟨List.nodup_nil, rfl, rfl, fun _ h => (nomatch h), Nat.zero_le _, Nat.zero_le _⟩
theorem Cok.add {c : Cst} {s : Stp} (h : Cok c) (r : Right c.names s) (l : c.steps.length < 12) (u : (c.unk ++ newUnk s).length ≤ 8) : Cok (c.add s) := by
  refine ⟨?_, ?_, ?_, fun x m => ?_, ?_, u⟩
  · show ((c.tri ++ [(s.nm, c.mk3 s)]).map (·.1)).Nodup
    rw [List.map_append]
    refine List.nodup_append.mpr ⟨h.nd, nd_one _, fun a ha b hb e => ?_⟩
    have : b = s.nm := List.mem_singleton.mp hb
    rw [this] at e
    rw [e] at ha
    exact r.new ha
  · show (c.tri ++ [(s.nm, c.mk3 s)]).map (·.1) = (c.steps ++ [s]).map (·.nm)
    rw [List.map_append, List.map_append, ← h.nm]
    rfl
  · show c.unk ++ newUnk s = (c.steps ++ [s]).flatMap newUnk
    rw [List.flatMap_append, ← h.un]
    simp
  · rcases List.mem_append.mp m with m | m
    · exact h.st x m
    · rw [List.mem_singleton.mp m]
      exact ⟨r.shp, r.nm⟩
  · show (c.steps ++ [s]).length ≤ 12
    rw [List.length_append]
    exact l
theorem Cok.unkNd {c : Cst} (h : Cok c) : c.unk.Nodup := by
  rw [h.un]
  exact unk_nodup (by rw [← h.nm]; exact h.nd)
theorem Cok.unkNew {c : Cst} {s : Stp} (h : Cok c) (r : Right c.names s) : (c.unk ++ newUnk s).Nodup := by
  refine List.nodup_append.mpr ⟨h.unkNd, newUnk_nd s, fun a ha b hb e => ?_⟩
  rw [h.un] at ha
  obtain ⟨s2, m2, hb2⟩ := List.mem_flatMap.mp ha
  obtain ⟨c1, e1⟩ := mem_newUnk hb2
  obtain ⟨c2, e2⟩ := mem_newUnk hb
  have := (unkN_inj (e1.symm.trans (e.trans e2))).1
  refine r.new ?_
  rw [h.nm]
  exact List.mem_map.mpr ⟨s2, m2, this⟩
theorem Cok.triLen {c : Cst} (h : Cok c) : c.tri.length = c.steps.length := by
  have := congrArg List.length h.nm
  rw [List.length_map] at this
  unfold Cst.names at this
  rw [List.length_map] at this
  exact this
/-! what add makes of the heap -/
theorem TabE.off {D : List Addr} {H G : Hp} {v : V} {e : Px} (h : TabE H v e) (c : Chg D H G) (n : ∀ d, v = .ref d → d ∉ D) : TabE G v e := by
  obtain ⟨d, T, e1, ⟨h1, h2⟩, h3⟩ := h
  exact ⟨d, T, e1, ⟨c _ _ h1 (n d e1), h2⟩, h3⟩
theorem TabE.some {H : Hp} {v : V} {e : Px} (h : TabE H v e) {B : Int} (z : evX (powS B) e ≠ 0) {t : Addr} (ht : H t = some (.dK [])) : v ≠ .ref t := fun q => by
  obtain ⟨d, T, e1, ⟨h1, h2⟩, h3⟩ := h
  rw [e1] at q
  cases q
  have ne := h3.there z
  rw [ht] at h1
  cases T with
  | nil => exact ne rfl
  | cons a T => cases h1
theorem pair_snoc {α β : Type} {F : α → β → Prop} {a : α} {b : β} (f : F a b) : ∀ {l : List α} {m : List β}, Paired F l m → Paired F (l ++ [a]) (m ++ [b])
  | _, _, .nil => .cons f .nil
  | _, _, .cons g r => .cons g (pair_snoc f r)
theorem first_free {c : Cst} {s : Stp} (e : c.tri = []) (r : Right c.names s) : s.w = .free := by
  have h : s.el = [] := by
    cases q : s.el with
    | nil => rfl
    | cons x l =>
      have := r.el x (by rw [q]; exact List.mem_cons_self)
      unfold Cst.names at this
      rw [e] at this
      cases this
  have := r.shp.el
  rw [h] at this
  revert this
  cases s.w <;> first | (intro _; rfl) | (intro h; cases h)
theorem add_heap {C : Addr} {H : Hp} {o : Own} {c : Cst} {s : Stp} {a tt l dx : Addr} {svs : List V} {kvs : List (Key × V)} (hc : ConAt C H o c) (ck : Cok c) (rt : Right c.names s) (ha : H a = some (.tup s.vals)) (tv : TripE H (.ref tt) (c.mk3 s))
    (hl : H l = some (.lst ((c.unk ++ newUnk s).map V.str))) (lp : l ≠ o.p) (ls : l ≠ o.s) (lt : l ≠ o.t) (hob : H o.p = some (.ins C dx (cF o))) (hs : H o.s = some (.lst svs)) (hsp : Paired (StepAt H) svs c.steps) (ht : H o.t = some (.dK kvs)) (htr : TriAt H kvs c.tri) :
    ConAt C (upd (upd (upd H o.s (.lst (svs ++ [.ref a]))) o.p (.ins C dx (cF ⟨o.p, o.s, l, o.t⟩))) o.t (.dK (putK kvs (Sum.inr s.nm : Key) (.ref tt)))) ⟨o.p, o.s, l, o.t⟩ (c.add s) ∧
    Chg [o.p, o.s, o.t] H (upd (upd (upd H o.s (.lst (svs ++ [.ref a]))) o.p (.ins C dx (cF ⟨o.p, o.s, l, o.t⟩))) o.t (.dK (putK kvs (Sum.inr s.nm : Key) (.ref tt)))) := by
  have ps : o.p ≠ o.s := fun z => by rw [z, hs] at hob; cases hob
  have pt : o.p ≠ o.t := fun z => by rw [z, ht] at hob; cases hob
  have st : o.s ≠ o.t := fun z => by rw [z, ht] at hs; cases hs
  have cg : Chg [o.p, o.s, o.t] H (upd (upd (upd H o.s (.lst (svs ++ [.ref a]))) o.p (.ins C dx (cF ⟨o.p, o.s, l, o.t⟩))) o.t (.dK (putK kvs (Sum.inr s.nm : Key) (.ref tt)))) := fun b x q m => by
    have mp : b ≠ o.p := fun z => m (by rw [z]; exact List.mem_cons_self)
    have ms : b ≠ o.s := fun z => m (by rw [z]; exact List.mem_cons_of_mem _ List.mem_cons_self)
    have mt : b ≠ o.t := fun z => m (by rw [z]; exact List.mem_cons_of_mem _ (List.mem_cons_of_mem _ List.mem_cons_self))
    exact (upd_ne mt).trans ((upd_ne mp).trans ((upd_ne ms).trans q))
  have e1 : (upd (upd (upd H o.s (.lst (svs ++ [.ref a]))) o.p (.ins C dx (cF ⟨o.p, o.s, l, o.t⟩))) o.t (.dK (putK kvs (Sum.inr s.nm : Key) (.ref tt)))) o.p = some (.ins C dx (cF ⟨o.p, o.s, l, o.t⟩)) := (upd_ne pt).trans upd_same
  have e2 : (upd (upd (upd H o.s (.lst (svs ++ [.ref a]))) o.p (.ins C dx (cF ⟨o.p, o.s, l, o.t⟩))) o.t (.dK (putK kvs (Sum.inr s.nm : Key) (.ref tt)))) o.s = some (.lst (svs ++ [.ref a])) := (upd_ne st).trans ((upd_ne (Ne.symm ps)).trans upd_same)
  have e3 : (upd (upd (upd H o.s (.lst (svs ++ [.ref a]))) o.p (.ins C dx (cF ⟨o.p, o.s, l, o.t⟩))) o.t (.dK (putK kvs (Sum.inr s.nm : Key) (.ref tt)))) o.t = some (.dK (putK kvs (Sum.inr s.nm : Key) (.ref tt))) := upd_same
  generalize (upd (upd (upd H o.s (.lst (svs ++ [.ref a]))) o.p (.ins C dx (cF ⟨o.p, o.s, l, o.t⟩))) o.t (.dK (putK kvs (Sum.inr s.nm : Key) (.ref tt)))) = G at cg e1 e2 e3 ⊢
  have tup : ∀ b xs, H b = some (.tup xs) → G b = some (.tup xs) := fun b xs q => cg _ _ q fun m => by
    rcases List.mem_cons.mp m with rfl | m
    · rw [hob] at q; cases q
    rcases List.mem_cons.mp m with rfl | m
    · rw [hs] at q; cases q
    · obtain rfl := List.mem_singleton.mp m
      rw [ht] at q; cases q
  have tab : ∀ v e, TabE H v e → v ≠ .ref o.t → TabE G v e := fun v e h n => h.off cg fun d ed m => by
    obtain ⟨d2, T, e2, ⟨h1, _⟩, _⟩ := h
    rw [ed] at e2
    cases e2
    rcases List.mem_cons.mp m with rfl | m
    · rw [hob] at h1; cases h1
    rcases List.mem_cons.mp m with rfl | m
    · rw [hs] at h1; cases h1
    · obtain rfl := List.mem_singleton.mp m
      exact n ed
  have trip : ∀ v p, TripE H v p → (∀ w e, TabE H w e → w ≠ .ref o.t) → TripE G v p := fun v p ⟨t, u0, u1, u2, e, h0, h1, h2, h3⟩ l => ⟨t, u0, u1, u2, e, tup _ _ h0, tab _ _ h1 (l _ _ h1), tab _ _ h2 (l _ _ h2), tab _ _ h3 (l _ _ h3)⟩
  have new : valV kvs (Sum.inr s.nm : Key) = none := by
    rcases tri_val htr s.nm with ⟨e, v, a, b, _⟩ | ⟨_, b⟩
    · have h2 := List.find?_some a
      exact absurd (List.mem_map.mpr ⟨e, List.mem_of_find?_eq_some a, of_decide_eq_true (p := e.1 = s.nm) h2⟩) rt.new
    · exact b
  have tt2 : TripE G (.ref tt) (c.mk3 s) ∧ TriAt G kvs c.tri := by
    by_cases ne : c.tri = []
    · have fr := first_free ne rt
      have kn : kvs = [] := by
        rw [ne] at htr
        cases htr
        rfl
      have un : c.unk = [] := by
        rw [ck.un]
        have := ck.triLen
        rw [ne] at this
        rw [List.length_eq_zero_iff.mp this.symm]
        rfl
      rw [kn] at ht
      have e : c.mk3 s = placedX (.var 0) (.var 1) := by
        unfold Cst.mk3 Stp.mk3
        rw [fr, un]
        rfl
      rw [e] at tv ⊢
      obtain ⟨t, u0, u1, u2, e, h0, h1, h2, h3⟩ := tv
      refine ⟨⟨t, u0, u1, u2, e, tup _ _ h0, tab _ _ h1 (h1.some (B := 1) ?_ ht), tab _ _ h2 (h2.some (B := 1) ?_ ht), tab _ _ h3 (h3.some (B := 1) ?_ ht)⟩, by rw [ne, kn]; exact .nil⟩
      · show (1 : Int) ^ (radix ^ 0) ≠ 0
        rw [Int.one_pow]; decide
      · show (1 : Int) ^ (radix ^ 1) ≠ 0
        rw [Int.one_pow]; decide
      · show (1 : Int) ≠ 0
        decide
    · have l := (hc.loose ne o.t (List.mem_cons_of_mem _ (List.mem_cons_of_mem _ List.mem_cons_self))).2
      exact ⟨trip _ _ tv l, pair_imp (fun _ _ q => ⟨q.1, trip _ _ q.2 l⟩) htr⟩
  have lg : G l = some (.lst ((c.unk ++ newUnk s).map V.str)) := cg _ _ hl fun m => by
    rcases List.mem_cons.mp m with rfl | m
    · exact lp rfl
    rcases List.mem_cons.mp m with rfl | m
    · exact ls rfl
    · exact lt (List.mem_singleton.mp m)
  refine ⟨⟨⟨dx, e1⟩, ⟨svs ++ [.ref a], e2, pair_snoc ⟨a, rfl, tup _ _ ha⟩ (pair_imp (fun _ _ q => q.elim fun b ⟨e, h⟩ => ⟨b, e, tup _ _ h⟩) hsp)⟩, lg, ⟨_, e3, ?_⟩, Ne.symm ls⟩, cg⟩
  rw [putK_new _ new]
  exact pair_snoc ⟨rfl, tt2.1⟩ tt2.2
end CN

set_option Elab.async false
set_option linter.all false
set_option maxRecDepth 100000
set_option maxHeartbeats 4000000
set_option autoImplicit false
set_option exponentiation.threshold 1000
/-! A table's keys read back into exponents: values at any whole numbers. Maths. -/
namespace CN
open PySem L2 K1D K2P
def valD : Nat → (Nat → Nat) → Nat
  | 0, _ => 0
  | n + 1, f => f 0 + radix * valD n fun i => f (i + 1)
def prodD : Nat → (Nat → Int) → (Nat → Nat) → Int
  | 0, _, _ => 1
  | n + 1, s, f => s 0 ^ f 0 * prodD n (fun i => s (i + 1)) fun i => f (i + 1)
def monD : Nat → (Nat → Int) → Nat → Int
  | 0, _, _ => 1
  | n + 1, s, k => s 0 ^ (k % radix) * monD n (fun i => s (i + 1)) (k / radix)
theorem radix_pos : 0 < radix := by decide
theorem mon_val : ∀ (n : Nat) (s : Nat → Int) (f : Nat → Nat), (∀ i, i < n → f i < radix) → monD n s (valD n f) = prodD n s f
  | 0, _, _, _ => rfl
  | n + 1, s, f, h => by
    show s 0 ^ ((f 0 + radix * valD n fun i => f (i + 1)) % radix) * monD n (fun i => s (i + 1)) ((f 0 + radix * valD n fun i => f (i + 1)) / radix) = _
    have h0 := h 0 (Nat.succ_pos n)
    rw [Nat.add_mul_mod_self_left, Nat.mod_eq_of_lt h0, Nat.add_mul_div_left _ _ radix_pos, Nat.div_eq_of_lt h0, Nat.zero_add, mon_val n _ _ fun i hi => h (i + 1) (by omega)]
    rfl
theorem val_add : ∀ (n : Nat) (f g : Nat → Nat), valD n (fun i => f i + g i) = valD n f + valD n g
  | 0, _, _ => rfl
  | n + 1, f, g => by
    show (f 0 + g 0) + radix * valD n (fun i => f (i + 1) + g (i + 1)) = _
    rw [val_add n (fun i => f (i + 1)) fun i => g (i + 1), Nat.mul_add]
    show _ = (f 0 + radix * valD n fun i => f (i + 1)) + (g 0 + radix * valD n fun i => g (i + 1))
    omega
theorem prod_add : ∀ (n : Nat) (s : Nat → Int) (f g : Nat → Nat), prodD n s (fun i => f i + g i) = prodD n s f * prodD n s g
  | 0, _, _, _ => rfl
  | n + 1, s, f, g => by
    show s 0 ^ (f 0 + g 0) * prodD n (fun i => s (i + 1)) (fun i => f (i + 1) + g (i + 1)) = _
    rw [prod_add n _ (fun i => f (i + 1)) fun i => g (i + 1), Int.pow_add]
    show _ = (s 0 ^ f 0 * prodD n (fun i => s (i + 1)) fun i => f (i + 1)) * (s 0 ^ g 0 * prodD n (fun i => s (i + 1)) fun i => g (i + 1))
    simp only [Int.mul_assoc, Int.mul_left_comm, Int.mul_comm]
theorem val_zero : ∀ n : Nat, valD n (fun _ => 0) = 0
  | 0 => rfl
  | n + 1 => by
    show 0 + radix * valD n (fun _ => 0) = 0
    rw [val_zero n, Nat.mul_zero]
theorem prod_zero : ∀ (n : Nat) (s : Nat → Int), prodD n s (fun _ => 0) = 1
  | 0, _ => rfl
  | n + 1, s => by
    show s 0 ^ 0 * prodD n _ (fun _ => 0) = 1
    rw [prod_zero n, Int.pow_zero]
    rfl
def oneAt (j : Nat) : Nat → Nat := fun i => if i = j then 1 else 0
theorem val_one : ∀ (n j : Nat), j < n → valD n (oneAt j) = radix ^ j
  | 0, j, h => by omega
  | n + 1, 0, _ => by
    show (if (0 : Nat) = 0 then 1 else 0) + radix * valD n (fun i => if i + 1 = 0 then 1 else 0) = _
    have e : (fun i : Nat => if i + 1 = 0 then 1 else 0) = fun _ => 0 := by funext i; simp
    rw [e, val_zero]
    rfl
  | n + 1, j + 1, h => by
    show (if (0 : Nat) = j + 1 then 1 else 0) + radix * valD n (fun i => if i + 1 = j + 1 then 1 else 0) = _
    have e : (fun i : Nat => if i + 1 = j + 1 then 1 else 0) = oneAt j := by funext i; unfold oneAt; simp
    rw [e, val_one n j (by omega), Nat.pow_succ, Nat.mul_comm]
    simp
theorem prod_one : ∀ (n j : Nat) (s : Nat → Int), j < n → prodD n s (oneAt j) = s j
  | 0, j, _, h => by omega
  | n + 1, 0, s, _ => by
    show s 0 ^ (if (0 : Nat) = 0 then 1 else 0) * prodD n _ (fun i => if i + 1 = 0 then 1 else 0) = s 0
    have e : (fun i : Nat => if i + 1 = 0 then 1 else 0) = fun _ => 0 := by funext i; simp
    rw [e, prod_zero, if_pos rfl, Int.mul_one, Int.pow_succ, Int.pow_zero, Int.one_mul]
  | n + 1, j + 1, s, h => by
    show s 0 ^ (if (0 : Nat) = j + 1 then 1 else 0) * prodD n (fun i => s (i + 1)) (fun i => if i + 1 = j + 1 then 1 else 0) = s (j + 1)
    have e : (fun i : Nat => if i + 1 = j + 1 then 1 else 0) = oneAt j := by funext i; unfold oneAt; simp
    rw [e, prod_one n j _ (by omega)]
    simp
/-- degrees; the variables' bound -/
def dg : Px → Nat
  | .num _ => 0
  | .var _ => 1
  | .add a b => max (dg a) (dg b)
  | .sub a b => max (dg a) (dg b)
  | .mul a b => dg a + dg b
  | .scl a _ => dg a
def Vars (n : Nat) : Px → Prop
  | .num _ => True
  | .var i => i < n
  | .add a b => Vars n a ∧ Vars n b
  | .sub a b => Vars n a ∧ Vars n b
  | .mul a b => Vars n a ∧ Vars n b
  | .scl a _ => Vars n a
def DigT (n d : Nat) (T : KI) : Prop := ∀ x ∈ T, ∃ f : Nat → Nat, x.1 = (valD n f : Nat) ∧ ∀ i, i < n → f i ≤ d
theorem DigT.mono {n d e : Nat} {T : KI} (h : DigT n d T) (l : d ≤ e) : DigT n e T := fun x m => (h x m).elim fun f ⟨a, b⟩ => ⟨f, a, fun i hi => Nat.le_trans (b i hi) l⟩
theorem DigT.app {n d : Nat} {T S : KI} (h : DigT n d T) (g : DigT n d S) : DigT n d (T ++ S) := fun x m => (List.mem_append.mp m).elim (h x) (g x)
theorem DigT.sc {n d : Nat} {T : KI} (h : DigT n d T) (k : Int) : DigT n d (T.map fun x => (x.1, x.2 * k)) := fun x m => by
  obtain ⟨y, my, rfl⟩ := List.mem_map.mp m
  exact h y my
theorem DigT.row {n d e : Nat} {x : Int × Int} {S : KI} (hx : ∃ f : Nat → Nat, x.1 = (valD n f : Nat) ∧ ∀ i, i < n → f i ≤ d) (g : DigT n e S) : DigT n (d + e) (rowL (· + ·) x S) := fun y m => by
  obtain ⟨z, mz, rfl⟩ := List.mem_map.mp m
  obtain ⟨f, a, b⟩ := hx
  obtain ⟨f2, a2, b2⟩ := g z mz
  refine ⟨fun i => f i + f2 i, ?_, fun i hi => Nat.add_le_add (b i hi) (b2 i hi)⟩
  show x.1 + z.1 = _
  rw [a, a2, val_add]
  rfl
theorem DigT.prod {n d e : Nat} {S : KI} (g : DigT n e S) : ∀ {T : KI}, DigT n d T → DigT n (d + e) (prodL (· + ·) T S)
  | [], _ => fun x m => nomatch m
  | x :: T, h => by
    rw [prodL_cons]
    exact (DigT.row (h x List.mem_cons_self) g).app (DigT.prod g fun y m => h y (List.mem_cons_of_mem _ m))
theorem dig_tab {n : Nat} : ∀ {e : Px}, Vars n e → DigT n (dg e) (tabX e)
  | .num k, _ => fun x m => by
    rw [List.mem_singleton.mp m]
    exact ⟨fun _ => 0, by rw [val_zero]; rfl, fun _ _ => Nat.le_refl _⟩
  | .var i, h => fun x m => by
    rw [List.mem_singleton.mp m]
    exact ⟨oneAt i, by rw [val_one n i h], fun j _ => by unfold oneAt; show _ ≤ 1; split <;> omega⟩
  | .add a b, h => ((dig_tab h.1).mono (Nat.le_max_left _ _)).app ((dig_tab h.2).mono (Nat.le_max_right _ _))
  | .sub a b, h => ((dig_tab h.1).mono (Nat.le_max_left _ _)).app (((dig_tab h.2).mono (Nat.le_max_right _ _)).sc (-1))
  | .mul a b, h => (dig_tab h.2).prod (dig_tab h.1)
  | .scl a k, h => (dig_tab (e := a) h).sc k
/-! the value of a table where each key has its own -/
def evM (m : Int → Int) : KI → Int
  | [] => 0
  | x :: T => x.2 * m x.1 + evM m T
theorem evM_app (m : Int → Int) : ∀ a b : KI, evM m (a ++ b) = evM m a + evM m b
  | [], b => by show evM m b = 0 + _; omega
  | x :: a, b => by
    show x.2 * m x.1 + evM m (a ++ b) = x.2 * m x.1 + evM m a + evM m b
    rw [evM_app m a b]
    omega
theorem evM_scale (m : Int → Int) (k : Int) : ∀ T : KI, evM m (T.map fun x => (x.1, x.2 * k)) = evM m T * k
  | [] => (Int.zero_mul k).symm
  | x :: T => by
    show x.2 * k * m x.1 + evM m (T.map fun x => (x.1, x.2 * k)) = (x.2 * m x.1 + evM m T) * k
    rw [evM_scale m k T, Int.add_mul, Int.mul_right_comm]
theorem evM_filter (m : Int → Int) (g : Int) : ∀ l : KI, evM m l = tot l g * m g + evM m (l.filter fun x => decide (x.1 ≠ g))
  | [] => by show (0 : Int) = 0 * _ + 0; omega
  | x :: l => by
    have ih := evM_filter m g l
    show x.2 * m x.1 + evM m l = ((if x.1 = g then x.2 else 0) + tot l g) * m g + _
    rw [List.filter_cons]
    by_cases h : x.1 = g
    · rw [if_pos h, if_neg (by simp [h]), Int.add_mul, ih, h]
      omega
    · rw [if_neg h, if_pos (by simp [h]), Int.zero_add]
      show _ = _ + (x.2 * m x.1 + evM m _)
      omega
theorem evM_zero (m : Int → Int) : ∀ (n : Nat) (l : KI), l.length ≤ n → (∀ f, tot l f = 0) → evM m l = 0
  | _, [], _, _ => rfl
  | 0, x :: l, h, _ => by cases h
  | n + 1, x :: l, h, z => by
    rw [evM_filter m x.1, z, Int.zero_mul, Int.zero_add]
    refine evM_zero m n _ ?_ fun f => ?_
    · rw [List.filter_cons, if_neg (by simp)]
      have := List.length_filter_le (fun y : Int × Int => decide (y.1 ≠ x.1)) l
      rw [List.length_cons] at h
      omega
    · by_cases q : f = x.1
      · rw [q]
        exact tot_none fun y hy => by simpa using (List.mem_filter.mp hy).2
      · rw [totI_filter _ _ q, z]
theorem evM_row {n d e : Nat} {s : Nat → Int} {x : Int × Int} (hx : ∃ f : Nat → Nat, x.1 = (valD n f : Nat) ∧ ∀ i, i < n → f i ≤ d) (l : d + e < radix) : ∀ {S : KI}, DigT n e S → evM (fun k => monD n s k.toNat) (rowL (· + ·) x S) = x.2 * monD n s x.1.toNat * evM (fun k => monD n s k.toNat) S
  | [], _ => (Int.mul_zero _).symm
  | y :: S, g => by
    obtain ⟨f, a, b⟩ := id hx
    obtain ⟨f2, a2, b2⟩ := g y List.mem_cons_self
    have ih := evM_row (s := s) hx l (S := S) fun z m => g z (List.mem_cons_of_mem _ m)
    show (x.2 * y.2) * monD n s (x.1 + y.1).toNat + evM _ (rowL (· + ·) x S) = x.2 * monD n s x.1.toNat * (y.2 * monD n s y.1.toNat + evM _ S)
    have e1 : (x.1 + y.1).toNat = valD n (fun i => f i + f2 i) := by rw [a, a2, val_add]; omega
    have e2 : x.1.toNat = valD n f := by rw [a]; omega
    have e3 : y.1.toNat = valD n f2 := by rw [a2]; omega
    rw [ih, e1, e2, e3, mon_val n s _ fun i hi => Nat.lt_of_le_of_lt (Nat.add_le_add (b i hi) (b2 i hi)) l, mon_val n s f fun i hi => by have := b i hi; omega, mon_val n s f2 fun i hi => by have := b2 i hi; omega, prod_add, Int.mul_add]
    congr 1
    simp only [Int.mul_assoc, Int.mul_left_comm, Int.mul_comm]
theorem evM_prod {n d e : Nat} {s : Nat → Int} {S : KI} (g : DigT n e S) (l : d + e < radix) : ∀ {T : KI}, DigT n d T → evM (fun k => monD n s k.toNat) (prodL (· + ·) T S) = evM (fun k => monD n s k.toNat) T * evM (fun k => monD n s k.toNat) S
  | [], _ => (Int.zero_mul _).symm
  | x :: T, h => by
    rw [prodL_cons, evM_app, evM_row (h x List.mem_cons_self) l g, evM_prod g l fun y m => h y (List.mem_cons_of_mem _ m)]
    show _ = (x.2 * monD n s x.1.toNat + _) * _
    rw [Int.add_mul]
theorem evM_tab {n : Nat} (s : Nat → Int) : ∀ {e : Px}, Vars n e → dg e < radix → evM (fun k => monD n s k.toNat) (tabX e) = evX s e
  | .num k, _, _ => by
    show k * monD n s (0 : Int).toNat + 0 = k
    have : monD n s (0 : Int).toNat = 1 := by
      have e := mon_val n s (fun _ => 0) fun _ _ => radix_pos
      rw [val_zero, prod_zero] at e
      exact e
    rw [this]
    omega
  | .var i, h, _ => by
    show 1 * monD n s ((radix ^ i : Nat) : Int).toNat + 0 = s i
    have e := mon_val n s (oneAt i) fun j _ => by unfold oneAt; split <;> decide
    rw [val_one n i h, prod_one n i s h] at e
    rw [show ((radix ^ i : Nat) : Int).toNat = radix ^ i from Int.toNat_natCast _, e]
    omega
  | .add a b, h, l => by
    have l : max (dg a) (dg b) < radix := l
    show evM _ (tabX a ++ tabX b) = _
    rw [evM_app, evM_tab s h.1 (by omega), evM_tab s h.2 (by omega)]
    rfl
  | .sub a b, h, l => by
    have l : max (dg a) (dg b) < radix := l
    show evM _ (tabX a ++ (tabX b).map fun x => (x.1, x.2 * -1)) = evX s a - evX s b
    rw [evM_app, evM_scale, evM_tab s h.1 (by omega), evM_tab s h.2 (by omega)]
    omega
  | .mul a b, h, l => by
    have l : dg a + dg b < radix := l
    show evM _ (prodL _ _ _) = _
    rw [evM_prod (dig_tab h.2) l (dig_tab h.1), evM_tab s h.1 (by omega), evM_tab s h.2 (by omega)]
    rfl
  | .scl a k, h, l => by
    show evM _ ((tabX a).map fun x => (x.1, x.2 * k)) = _
    rw [evM_scale, evM_tab s (e := a) h l]
    rfl
/-- one that is not 0 at some whole numbers has a table that is not empty -/
theorem Rep.point {T : KI} {e : Px} (h : Rep T e) {n : Nat} {s : Nat → Int} (v : Vars n e) (d : dg e < radix) (z : evX s e ≠ 0) : T ≠ [] := fun q => by
  refine z ?_
  rw [← evM_tab s v d]
  refine evM_zero _ _ _ (Nat.le_refl _) fun f => ?_
  rw [← h.tot f, q]
  rfl
/-- no table of it is empty -/
def NZ (e : Px) : Prop := ∀ T, Rep T e → T ≠ []
theorem nz_point {e : Px} {n : Nat} {s : Nat → Int} (v : Vars n e) (d : dg e < radix) (z : evX s e ≠ 0) : NZ e := fun _ h => h.point v d z
end CN

set_option Elab.async false
set_option linter.all false
set_option maxRecDepth 100000
set_option maxHeartbeats 4000000
set_option autoImplicit false
set_option pp.maxSteps 300
/-! Construction: a new one; add. -/
namespace CN
open PySem L2 K1D K2P
open K4 (isNm)
abbrev sCInit : Stmt := inClass (K2P.top 60) 0
abbrev sAdd : Stmt := inClass (K2P.top 60) 1
def spCInit (C : Addr) : Sp := fun vs H Q _ => ∃ (p dx : Addr), vs = [.ref p] ∧ H p = some (.ins C dx []) ∧
  ∀ (o : Own) (G : Hp), o.p = p → ConAt C G o Cst.new → (∀ b x, H b = some x → b ≠ p → G b = some x) → H o.s = none → H o.u = none → H o.t = none → Q .non G
section
variable {P : Program} {w : World} {K : PySem.W.Frag} {mg : Str → Option Value} {base : Heap} {C : Addr}
theorem scCInit : FnScope ["self"] ["self"] (defScope sCInit) := ⟨rfl, rfl, rfl, by decide +kernel, rfl, by decide +kernel, by decide +kernel⟩
theorem ok_cinit {f : Addr} {fd : FuncData} (F : Fun K "__init__" "Construction.__init__" sCInit f fd) (CT : ConTxt K mg C) : FnOk P w K mg base CX0 1 f fd ["self"] (spCInit C) := by
  refine F.ok scCInit (fun vs H Q E h => ?_) (fun cdv A outer s H vs Q E hr h => ?_)
  · obtain ⟨p, dx, rfl, _⟩ := h
    rfl
  · obtain ⟨p, dx, rfl, hp, go⟩ := h
    refine ⟨_, (pss_cons (ps_fld (pv 0) (pe_lst pa_nil) rfl)
      (pss_cons (ps_fld (pv 0) (pe_lst pa_nil) rfl)
      (pss_one (ps_fld (pv 0) pe_dnewK rfl)))), ?_⟩
    refine ⟨by show 0 ≤ sizeLine; decide, fun a n1 => ⟨_, rfl, p, C, dx, [], rfl, same_new n1 _ _ hp, CT.cl, CT.nS, (by show 0 < 1000; decide), ?_⟩⟩
    have pa : p ≠ a := ne_of_none hp n1
    have e1 : upd (upd H a (.lst [])) p (.ins C dx (putF "_steps" (.ref a) [])) p = some (.ins C dx [("_steps", .ref a)]) := upd_same
    have e2 : upd (upd H a (.lst [])) p (.ins C dx (putF "_steps" (.ref a) [])) a = some (.lst []) := (upd_ne (Ne.symm pa)).trans upd_same
    have e3 : ∀ b x, H b = some x → b ≠ p → upd (upd H a (.lst [])) p (.ins C dx (putF "_steps" (.ref a) [])) b = some x := fun b x q ne => (upd_ne ne).trans (same_new n1 _ _ q)
    have e4 : ∀ b, upd (upd H a (.lst [])) p (.ins C dx (putF "_steps" (.ref a) [])) b = none → H b = none := fun b q => by
      cases hb : H b with
      | none => rfl
      | some x =>
        by_cases bp : b = p
        · rw [bp, e1] at q; cases q
        · rw [e3 b x hb bp] at q; cases q
    generalize upd (upd H a (.lst [])) p (.ins C dx (putF "_steps" (.ref a) [])) = H1 at e1 e2 e3 e4 ⊢
    refine ⟨by show 0 ≤ sizeLine; decide, fun b n2 => ⟨_, rfl, p, C, dx, _, rfl, same_new n2 _ _ e1, CT.cl, CT.nU, (by show 1 < 1000; decide), ?_⟩⟩
    have pb : p ≠ b := ne_of_none e1 n2
    have ab : a ≠ b := ne_of_none e2 n2
    have n1u : ¬ (("_steps" : Str) = "_unknowns") := by decide +kernel
    have n1t : ¬ (("_steps" : Str) = "_triples") := by decide +kernel
    have n2t : ¬ (("_unknowns" : Str) = "_triples") := by decide +kernel
    have p2 : putF "_unknowns" (.ref b) ([("_steps", .ref a)] : List (Str × V)) = ([("_steps", .ref a), ("_unknowns", .ref b)] : List (Str × V)) := by
      show (if ("_steps" : Str) = "_unknowns" then _ else (("_steps" : Str), V.ref a) :: putF "_unknowns" (.ref b) []) = _
      rw [if_neg n1u]
      rfl
    rw [p2]
    have f1 : upd (upd H1 b (.lst [])) p (.ins C dx [("_steps", .ref a), ("_unknowns", .ref b)]) p = some (.ins C dx [("_steps", .ref a), ("_unknowns", .ref b)]) := upd_same
    have f2 : upd (upd H1 b (.lst [])) p (.ins C dx [("_steps", .ref a), ("_unknowns", .ref b)]) a = some (.lst []) := (upd_ne (Ne.symm pa)).trans ((upd_ne ab).trans e2)
    have f3 : upd (upd H1 b (.lst [])) p (.ins C dx [("_steps", .ref a), ("_unknowns", .ref b)]) b = some (.lst []) := (upd_ne (Ne.symm pb)).trans upd_same
    have f4 : ∀ d x, H d = some x → d ≠ p → upd (upd H1 b (.lst [])) p (.ins C dx [("_steps", .ref a), ("_unknowns", .ref b)]) d = some x := fun d x q ne => (upd_ne ne).trans (same_new n2 _ _ (e3 d x q ne))
    generalize upd (upd H1 b (.lst [])) p (.ins C dx [("_steps", .ref a), ("_unknowns", .ref b)]) = H2 at f1 f2 f3 f4 ⊢
    intro d n3
    refine ⟨_, rfl, p, C, dx, _, rfl, same_new n3 _ _ f1, CT.cl, CT.nT, (by show 2 < 1000; decide), ?_⟩
    have pd : p ≠ d := ne_of_none f1 n3
    have ad : a ≠ d := ne_of_none f2 n3
    have bd : b ≠ d := ne_of_none f3 n3
    have p3 : putF "_triples" (.ref d) ([("_steps", .ref a), ("_unknowns", .ref b)] : List (Str × V)) = cF ⟨p, a, b, d⟩ := by
      show (if ("_steps" : Str) = "_triples" then _ else (("_steps" : Str), V.ref a) :: (if ("_unknowns" : Str) = "_triples" then _ else (("_unknowns" : Str), V.ref b) :: putF "_triples" (.ref d) [])) = _
      rw [if_neg n1t, if_neg n2t]
      rfl
    rw [p3]
    have old : ∀ q x, H2 q = none → H q = some x → q = p := fun q x z hq => Classical.byContradiction fun ne => by
      rw [f4 q x hq ne] at z
      cases z
    refine go ⟨p, a, b, d⟩ _ rfl ⟨⟨dx, upd_same⟩, ⟨[], (upd_ne (Ne.symm pa)).trans ((upd_ne ad).trans f2), .nil⟩, (upd_ne (Ne.symm pb)).trans ((upd_ne bd).trans f3), ⟨[], (upd_ne (Ne.symm pd)).trans upd_same, .nil⟩, ab⟩
      (fun q x hq ne => (upd_ne ne).trans (same_new n3 _ _ (f4 q x hq ne))) n1 (e4 b n2) ?_
    cases hd : H d with
    | none => rfl
    | some x => exact absurd (old d x n3 hd).symm pd
end
theorem valV_not {κ : Type} [DecidableEq κ] {kvs : List (κ × V)} {k : κ} (h : k ∉ kvs.map (·.1)) : valV kvs k = none := by
  unfold valV
  rw [List.find?_eq_none.mpr fun p m q => h (List.mem_map.mpr ⟨p, m, of_decide_eq_true q⟩)]
  rfl
/-- a method that may raise -/
structure MethX (P : Program) (w : World) (K : PySem.W.Frag) (mg : Str → Option Value) (base : Heap) (C : Addr) (k : Nat) (x : Str) (ps : List Str) (sp : Sp) (f : Addr) (d : FuncData) : Prop where
  ok : FnOk P w K mg base (L2N.CX P w) k f d ps sp
  b : Binds K d ps []
  m : Meth K C x f
structure InitT (P : Program) (w : World) (K : PySem.W.Frag) (mg : Str → Option Value) (base : Heap) (k : Nat) (ps : List Str) (sp : Sp) (f : Addr) (d : FuncData) : Prop where
  ok : FnOk P w K mg base CX0 k f d ps sp
  b : Binds K d ps []
/-- what add wants of constants and classes -/
structure AddTxt (K : PySem.W.Frag) (mg : Str → Option Value) (CR : Addr) : Prop where
  gT : mg "Tables" = some (.ref CR)
  MR : Mk0 K CR
  g12 : ∃ t, mg "MOST_POINTS" = some (.int 12 t)
  g8 : ∃ t, mg "MOST_UNKNOWNS" = some (.int 8 t)
  gR : ∃ t, mg "RADIX" = some (.int ((radix : Nat) : Int) t)
/-- how add ends -/
def AddEnds (C CS CI CM : Addr) (H : Hp) (o : Own) (c : Cst) (s : Stp) (Q : VK) (E : XK) : Prop :=
  (c.steps.length = 12 → Raises CM "word" (.str "points") H E) ∧
  (c.steps.length < 12 → 8 < (c.unk ++ newUnk s).length → Raises CM "word" (.str "unknowns") H E) ∧
  (c.steps.length < 12 → (c.unk ++ newUnk s).length ≤ 8 → Fine3 (c.mk3 s) ∧ (((∀ v, evX v (c.mk3 s).w = 0) ∧ Raises CI "name" (.str s.nm) H E) ∨
    (NZ (c.mk3 s).w ∧ ∀ (G : Hp) (u : Addr), ConAt C G ⟨o.p, o.s, u, o.t⟩ (c.add s) → Chg [o.p, o.s, o.t] H G → H u = none → Q .non G)))
def spAdd (C CS CI CM : Addr) : Sp := fun vs H Q E => ∃ (o : Own) (c : Cst) (x : V), vs = [.ref o.p, x] ∧ ConAt C H o c ∧ Cok c ∧
  ((NoSeq x ∧ Raises CS "at" (.int 0) H E) ∨ ∃ us, SeqV H x us ∧ Pls H us ∧ us.length < 1000000 ∧ (∀ k, chkAt c.names us = some k → Raises CS "at" (.int ((k : Nat) : Int)) H E) ∧
    (chkAt c.names us = none → ∃ s, us = s.vals ∧ Right c.names s ∧ AddEnds C CS CI CM H o c s Q E))
section
variable {P : Program} {w : World} {K : PySem.W.Frag} {mg : Str → Option Value} {base : Heap} {C CS CI CM CR CF B fS fI fM fC fN fFI fK fMd : Addr} {dS dI dM dC dN dFI dK dMd : FuncData}
theorem scAdd : FnScope ["self", "step", "unknowns", "fields", "tables", "triple", "name"] ["self", "step"] (defScope sAdd) := ⟨rfl, rfl, rfl, by decide +kernel, rfl, by decide +kernel, by decide +kernel⟩
theorem ok_add {f : Addr} {fd : FuncData} (F : Fun K "add" "Construction.add" sAdd f fd) (T : KindTxt K mg) (CT : ConTxt K mg C) (AT : AddTxt K mg CR) (FT : FldTxt K mg CF) (MF : Mk K CF fFI)
    (TM : ErrT P w K mg base "TooMany" "word" B CM fM dM) (IM : ErrT P w K mg base "Impossible" "name" B CI fI dI)
    (UC : MethX P w K mg base C 4 "_checked" ["self", "step"] (spChk C CS) fC dC) (UN : CallT P w K mg base CX0 1 "new_unknowns" ["step"] spNewUnk fN dN) (UI : InitT P w K mg base 1 ["self", "names", "radix"] (spFInit K CF) fFI dFI)
    (UK : MethT P w K mg base CX0 CF 1 "key" ["self", "monomial"] (spKey1 CF) fK dK) (UM : CallT P w K mg base CX0 9 "made" ["ring", "step", "triples", "unknowns"] (spMade CR) fMd dMd) :
    FnOk P w K mg base (L2N.CX P w) 10 f fd ["self", "step"] (spAdd C CS CI CM) := by
  refine okN F scAdd (fun vs H Q E h => ?_) (fun cdv A outer s H vs Q E hr h => ?_)
  · obtain ⟨o, c, x, rfl, _⟩ := h
    rfl
  · obtain ⟨o, c, x, rfl, hc, ck, h⟩ := h
    obtain ⟨t12, g12⟩ := AT.g12
    obtain ⟨t8, g8⟩ := AT.g8
    obtain ⟨tR, gR⟩ := AT.gR
    have MR := AT.MR
    have gT := AT.gT
    refine ⟨_, (pss_cons (ps_set (i := 1) scAdd.nd rfl (Or.inl rfl) (pe_methE (pv 0) CT.cl UC.m UC.ok (hr.mono (by decide)) UC.b (fun σ => L2N.passAt (L2N.takes_of rfl rfl rfl rfl) σ) (pa_cons (pv 1) pa_nil)))
      (pss_cons (ps_if (pt_cmpR op_eq (pe_callB call_len_seq (by rfl) T.len PySem.boot_len (pa_cons (pe_fld (pv 0) rfl) pa_nil)) (pe_glob (v := .int 12) (by rfl) g12 ⟨t12, rfl⟩) (nomark _)) (pss_one (L2N.ps_raise rfl (L2N.takes_of rfl rfl rfl rfl) (pmk_err TM.err TM.iC TM.tI TM.ini (hr.mono (by decide)) TM.bd pass0 rfl TM.gC (pa_cons pe_str pa_nil)))) pss_nil)
      (pss_cons (ps_set (i := 2) scAdd.nd rfl (Or.inl rfl) (pe_op op_cat (pe_fld (pv 0) rfl) (pe_callTy call_list_of (by rfl) T.list (by decide +kernel) (pa_cons (pe_call UN.ok (hr.mono (by decide)) rfl UN.g UN.k UN.b .nil pass0 (pa_cons (pv 1) pa_nil)) pa_nil))))
      (pss_cons (ps_if (pt_cmpR op_gt (pe_callB call_len_seq (by rfl) T.len PySem.boot_len (pa_cons (pv 2) pa_nil)) (pe_glob (v := .int 8) (by rfl) g8 ⟨t8, rfl⟩) (nomark _)) (pss_one (L2N.ps_raise rfl (L2N.takes_of rfl rfl rfl rfl) (pmk_err TM.err TM.iC TM.tI TM.ini (hr.mono (by decide)) TM.bd pass0 rfl TM.gC (pa_cons pe_str pa_nil)))) pss_nil)
      (pss_cons (ps_set (i := 3) scAdd.nd rfl (Or.inr rfl) (pe_make MF UI.ok (hr.mono (by decide)) rfl FT.gC UI.b .nil pass0 (pa_cons (pv 2) (pa_cons (pe_glob (v := .int ((radix : Nat) : Int)) (by rfl) gR ⟨tR, rfl⟩) pa_nil))))
      (pss_cons (ps_setDc (i := 4) (own := [("name", 6)]) (g := (gName 6)) (tt := tYes) (tk := (tVar 6)) (tv := tDisp [((tMeth CF "key" (spKey1 CF) [] E0 (tVar 3) (tCons (tTup (tCons (tTup (tCons (tVar 6) (tCons (tC (.int 1)) tNil))) tNil)) tNil)), tC (.int 1))]) rfl scAdd.nd rfl rfl rfl (pi_list (pv 2)) (blkOk_by (own := [("name", 6)]) (N := ["self", "step", "unknowns", "fields", "tables", "triple", "name"]) (sc := defScope sAdd) (by decide +kernel)) (fun _ _ _ _ _ => (pg_name (i := 6) scAdd.nd rfl (Or.inl rfl))) (fun _ _ _ _ _ => pts_nil) (fun _ _ _ _ _ => (pv 6)) (fun _ _ _ _ _ => (pe_disp (pps_cons (pe_meth (pv 3) FT.cl UK.m UK.ok (hr.mono (by decide)) UK.b .nil pass0 (pa_cons (pe_tup (pa_cons (pe_tup (pa_cons (pv 6) (pa_cons pe_int pa_nil))) pa_nil)) pa_nil)) pe_int pps_nil) (by rfl) (by rfl) (by simp) (by decide))))
      (pss_cons (ps_set (i := 5) scAdd.nd rfl (Or.inl rfl) (pe_call UM.ok (hr.mono (by decide)) rfl UM.g UM.k UM.b .nil pass0 (pa_cons (pe_makeP MR rfl gT) (pa_cons (pv 1) (pa_cons (pe_fld (pv 0) rfl) (pa_cons (pv 4) pa_nil))))))
      (pss_cons (ps_if (pt_not (pt_truth (pe_ix ix_tup (pv 5) pe_int (fun _ _ => rfl)) (fun _ => rfl))) (pss_one (L2N.ps_raise rfl (L2N.takes_of rfl rfl rfl rfl) (pmk_err IM.err IM.iC IM.tI IM.ini (hr.mono (by decide)) IM.bd pass0 rfl IM.gC (pa_cons (pe_ix ix_seq (pv 1) pe_int (fun _ _ => rfl)) pa_nil)))) pss_nil)
      (pss_cons (ps_expr (pe_bm PySem.F.plainAttrs_list PySem.F.slot_list_append PySem.F.type_list_append mt_append (pe_fld (pv 0) rfl) (pa_cons (pv 1) pa_nil)))
      (pss_cons (ps_fld (pv 0) (pv 2) rfl)
      (pss_one (ps_dput (hu1 hr) (pe_fld (pv 0) rfl) (pe_ix ix_seq (pv 1) pe_int (fun _ _ => rfl)) (pv 5) rfl)))))))))))), ?_⟩
    obtain ⟨dx, hob⟩ := hc.ob
    have lm : (cF o).lookup ("_checked" : Str) = none := f_none (by decide +kernel) (by decide +kernel) (by decide +kernel)
    refine ⟨_, rfl, o.p, dx, _, rfl, hob, lm, _, rfl, o.p, dx, o.t, _, x, c.names, rfl, hob, f_tri, hc.namesD, ?_⟩
    rcases h with ⟨ns, rz⟩ | ⟨us, sq, pl, lu, bad, good⟩
    · exact .inl ⟨ns, rz⟩
    refine .inr ⟨us, sq, pl, lu, bad, fun e0 a G1 s1 ha => ?_⟩
    obtain ⟨s, rfl, rt, ends⟩ := good e0
    clear bad good e0 pl lu
    have hc1 := hc.up s1
    obtain ⟨dx1, hob1⟩ := hc1.ob
    obtain ⟨svs, hs1, hsp⟩ := hc1.st
    have lsv : svs.length = c.steps.length := Paired.length hsp
    have l12 := ck.len
    refine ⟨_, rfl, o.p, C, dx1, _, _, rfl, hob1, CT.cl, CT.nS, f_steps, o.s, svs, rfl, .inl (SqL.of hs1), rfl, _, rfl, ?_⟩
    obtain ⟨e12, e8, eok⟩ := ends
    by_cases h12 : c.steps.length = 12
    · refine ifY (decide_eq_true (by rw [lsv, h12]; rfl)) ?_
      exact err_fin TM (.str _ (by decide +kernel)) ((e12 h12).up s1)
    refine ifN (decide_eq_false (fun q => h12 (by rw [lsv] at q; have := V.int.inj q; omega))) ?_
    have lt12 : c.steps.length < 12 := by omega
    have nl4 := nm_len rt.nm
    refine ⟨_, rfl, o.p, C, dx1, _, _, rfl, hob1, CT.cl, CT.nU, f_unk, _, rfl, .ref a, s, rfl, by omega, ⟨a, rfl, .inr ha⟩, fun p2 G2 s2 hp2 => ?_⟩
    have h2 := s1.trans s2
    refine ⟨p2, _, rfl, .inr (SqT.of hp2), fun l3 n3 => ?_⟩
    have s3 := same_new (o := .lst ((newUnk s).map V.str)) n3
    have hl3 : upd G2 l3 (.lst ((newUnk s).map V.str)) l3 = some (.lst ((newUnk s).map V.str)) := upd_same
    generalize upd G2 l3 (.lst ((newUnk s).map V.str)) = G3 at s3 hl3
    have h3 := h2.trans s3
    have nul := newUnk_len s
    have ar := ar2 s.w
    have ul := ck.ul
    refine ⟨o.u, l3, _, _, rfl, rfl, h3 _ _ hc.un, hl3, by rw [List.length_map, List.length_map, sizeLine_eq]; omega, fun l4 n4 => ?_⟩
    have s4 := same_new (o := .lst (c.unk.map V.str ++ (newUnk s).map V.str)) n4
    have hl4 : upd G3 l4 (.lst (c.unk.map V.str ++ (newUnk s).map V.str)) l4 = some (.lst ((c.unk ++ newUnk s).map V.str)) := by rw [upd_same, List.map_append]
    have f4 : H l4 = none := by
      cases q : H l4 with
      | none => rfl
      | some x => rw [h3 _ _ q] at n4; cases n4
    generalize upd G3 l4 (.lst (c.unk.map V.str ++ (newUnk s).map V.str)) = G4 at s4 hl4
    have h4 := h3.trans s4
    refine ⟨_, rfl, l4, _, rfl, .inl (SqL.of hl4), _, _, rfl, rfl, _, rfl, ?_⟩
    rw [List.length_map]
    by_cases h8 : 8 < (c.unk ++ newUnk s).length
    · refine ifY (decide_eq_true (by omega)) ?_
      exact err_fin TM (.str _ (by decide +kernel)) ((e8 lt12 h8).up h4)
    refine ifN (decide_eq_false (by omega)) ?_
    obtain ⟨fi, out⟩ := eok lt12 (by omega)
    clear e12 e8 eok
    refine ⟨_, rfl, fun x5 d5 nx5 nd5 ne5 => ?_⟩
    have q5 : upd (upd G4 d5 (.own x5)) x5 (.ins CF d5 []) x5 = some (.ins CF d5 []) := upd_same
    have s5 : Same G4 (upd (upd G4 d5 (.own x5)) x5 (.ins CF d5 [])) := fun b z q => (upd_ne (ne_of_none q nx5)).trans ((upd_ne (ne_of_none q nd5)).trans q)
    generalize upd (upd G4 d5 (.own x5)) x5 (.ins CF d5 []) = G5 at q5 s5
    refine ⟨x5, d5, l4, c.unk ++ newUnk s, radix, 15, rfl, q5, SqL.of (s5 _ _ hl4), ck.unkNew rt, by omega, by decide, by decide, by decide, fun G6 fa k6 => ⟨rfl, ?_⟩⟩
    have s6 : Same G4 G6 := fun b z q => k6 _ _ (s5 _ _ q) (ne_of_none q nx5)
    have h6 := h4.trans s6
    have hl6 := s6 _ _ hl4
    refine ⟨_, rfl, l4, rfl, ⟨_, SqL.of hl6⟩, fun D nD => ?_⟩
    have w0 := walk_list (K := K) (a := l4) (xs := (c.unk ++ newUnk s).map V.str)
    have und := ck.unkNew rt
    generalize hus : c.unk ++ newUnk s = us at w0 hl6 und fa h8
    refine blk_n (o := fun D => .dK []) (n := (us.map V.str).length) (fun (i : Nat) (F : Hp) => Same G6 F ∧ ∃ kvs : List (Key × V), F D = some (.dK kvs) ∧ kvs.map (·.1) = (us.take i).map eS ∧ ∀ (j : Nat) x, (us.take i)[j]? = some x → ∃ v, valV kvs (eS x) = some v ∧ TabE F v (.var j))
      ⟨same_new nD, [], upd_same, rfl, fun j x h => by simp at h⟩ (fun i F hi ⟨s, _⟩ => w0.goes i F hi (SqL.of (s _ _ hl6))) (fun F ⟨s, _⟩ => w0.stops F (SqL.of (s _ _ hl6))) (fun i F y F' hi ⟨s7, kvs, hD, hk, hv⟩ hy => ?_) (fun F ⟨s7, kvs, hD, hk, hv⟩ => ?_)
    · obtain ⟨e, hx⟩ := w0.yields i F y F' hi (SqL.of (s7 _ _ hl6)) hy
      subst e
      have hx : (us.map V.str)[i]? = some y := hx
      rw [List.getElem?_map] at hx
      obtain ⟨nm, hnm, rfl⟩ := Option.map_eq_some_iff.mp hx
      have il : i < us.length := (List.getElem?_eq_some_iff.mp hnm).1
      have fa7 := fa.up s7
      obtain ⟨⟨dx7, k1, k2, k3, hfa, _⟩, _⟩ := fa7
      have new : (eS nm) ∉ kvs.map (·.1) := fun m => by
        rw [hk] at m
        obtain ⟨z, mz, ez⟩ := List.mem_map.mp m
        have := eS_inj _ _ ez
        subst this
        obtain ⟨j, hj⟩ := List.mem_iff_getElem?.mp mz
        rw [List.getElem?_take] at hj
        split at hj
        · rename_i lj
          have := (List.getElem?_inj (List.getElem?_eq_some_iff.mp hj).1 und).mp (hj.trans hnm.symm)
          omega
        · cases hj
      have kl : kvs.length ≤ us.length := by
        have := congrArg List.length hk
        rw [List.length_map, List.length_map, List.length_take] at this
        omega
      refine ⟨rfl, _, rfl, fun d nd => ⟨_, rfl, x5, dx7, _, rfl, same_new nd _ _ hfa, fF_key, _, rfl, by show 2 ≤ sizeLine; decide, fun b nb => ⟨by show 1 ≤ sizeLine; decide, fun a2 na => ?_⟩⟩⟩
      have hb := same_new (o := .tup [.ref b]) na _ _ (show upd (upd F' d (.dK [])) b (.tup [.str nm, .int 1]) b = some (.tup [.str nm, .int 1]) from upd_same)
      have ha2 : upd (upd (upd F' d (.dK [])) b (.tup [.str nm, .int 1])) a2 (.tup [.ref b]) a2 = some (.tup [.ref b]) := upd_same
      have s8 := ((same_new (o := .dK []) nd).trans (same_new (o := .tup [.str nm, .int 1]) nb)).trans (same_new (o := .tup [.ref b]) na)
      have hd8 := ((same_new (o := .tup [.str nm, .int 1]) nb).trans (same_new (o := .tup [.ref b]) na)) _ _ (show upd F' d (.dK []) d = some (.dK []) from upd_same)
      generalize upd (upd (upd F' d (.dK [])) b (.tup [.str nm, .int 1])) a2 (.tup [.ref b]) = F8 at hb ha2 s8 hd8
      refine ⟨x5, a2, b, us, radix, i, nm, rfl, fa.up (s7.trans s8), ha2, hb, hnm, fun F9 s9 => ?_⟩
      have hd9 := s9 _ _ hd8
      refine ⟨hd9, [(eI ((radix ^ i : Nat) : Int), .int 1)], rfl, (show 1 ≤ 15 by decide), ?_⟩
      have nD2 : d ≠ D := fun z => by rw [z, hD] at nd; cases nd
      have em : mergeK [] [(eI ((radix ^ i : Nat) : Int), V.int 1)] = mpT eI [(((radix ^ i : Nat) : Int), 1)] := rfl
      rw [em]
      have sFd : Same F' (upd F9 d (.dK (mpT eI [(((radix ^ i : Nat) : Int), 1)]))) := fun z q e => (upd_ne (ne_of_none e nd)).trans (s9 _ _ (s8 _ _ e))
      have hd10 : upd F9 d (.dK (mpT eI [(((radix ^ i : Nat) : Int), 1)])) d = some (.dK (mpT eI [(((radix ^ i : Nat) : Int), 1)])) := upd_same
      generalize upd F9 d (.dK (mpT eI [(((radix ^ i : Nat) : Int), 1)])) = F10 at sFd hd10
      refine ⟨kvs, eS nm, rfl, sFd _ _ hD, by rw [sizeLine_eq]; omega, fun z q e => (upd_ne (ne_of_none e nD)).trans (sFd _ _ (s7 _ _ e)), putK kvs (eS nm) (.ref d), upd_same, ?_, fun j x2 hj => ?_⟩
      · rw [putK_new _ (valV_not new), List.map_append, hk, K2P.take_snoc hnm, List.map_append]
        rfl
      · rw [K2P.take_snoc hnm] at hj
        rw [valV_put]
        by_cases e : eS x2 = eS nm
        · rw [if_pos e]
          have := eS_inj _ _ e
          subst this
          have ji : j = i := by
            by_cases lj : j < (us.take i).length
            · rw [List.getElem?_append_left lj, List.getElem?_take] at hj
              split at hj
              · have := (List.getElem?_inj (List.getElem?_eq_some_iff.mp hj).1 und).mp (hj.trans hnm.symm)
                omega
              · cases hj
            · rw [List.getElem?_append_right (by omega)] at hj
              have := (List.getElem?_eq_some_iff.mp hj).1
              rw [List.length_take] at lj this
              simp at this
              omega
          subst ji
          exact ⟨_, rfl, d, _, rfl, ⟨(upd_ne nD2).trans hd10, nd_one _⟩, rep_var j⟩
        · rw [if_neg e]
          have lj : j < (us.take i).length := Classical.byContradiction fun lj => by
            rw [List.getElem?_append_right (by omega)] at hj
            have m := List.mem_of_getElem? hj
            exact e (by rw [List.mem_singleton.mp m])
          rw [List.getElem?_append_left lj] at hj
          obtain ⟨v2, a3, b3⟩ := hv j x2 hj
          refine ⟨v2, a3, ?_⟩
          obtain ⟨d3, T3, e3, ⟨h31, h32⟩, r3⟩ := b3.up sFd
          refine ⟨d3, T3, e3, ⟨(upd_ne fun z => ?_).trans h31, h32⟩, r3⟩
          rw [z, sFd _ _ hD] at h31
          cases h31
          have m : eS x2 ∈ (mpT eI T3).map (·.1) := by
            rw [hk]
            exact List.mem_map.mpr ⟨x2, List.mem_of_getElem? hj, rfl⟩
          obtain ⟨q, mq, eq⟩ := List.mem_map.mp m
          obtain ⟨q2, _, eq2⟩ := List.mem_map.mp mq
          rw [← eq2] at eq
          cases eq
    · rw [List.length_map, List.take_length] at hk hv
      have h7 := h6.trans s7
      refine fun x8 d8 nx8 nd8 ne8 => ?_
      have q8 : upd (upd F d8 (.own x8)) x8 (.ins CR d8 []) x8 = some (.ins CR d8 []) := upd_same
      have s8 : Same F (upd (upd F d8 (.own x8)) x8 (.ins CR d8 [])) := fun b z q => (upd_ne (ne_of_none q nx8)).trans ((upd_ne (ne_of_none q nd8)).trans q)
      generalize upd (upd F d8 (.own x8)) x8 (.ins CR d8 []) = G8 at q8 s8
      have h8' := h7.trans s8
      have hc8 := hc.up h8'
      obtain ⟨dx8, hob8⟩ := hc8.ob
      have unkD : UnkD G8 D (c.unk ++ newUnk s) := by
        rw [hus]
        exact ⟨kvs, s8 _ _ hD, fun j x e => (hv j x e).elim fun v ⟨a, b⟩ => ⟨v, a, b.up s8⟩⟩
      refine ⟨_, rfl, _, rfl, o.p, C, dx8, _, _, rfl, hob8, CT.cl, CT.nT, f_tri, _, rfl, .ref x8, a, o.t, D, s, c.pt, c.unk, rfl, rt.shp, by omega, ⟨x8, d8, rfl, q8⟩, ((s2.trans s3).trans (s4.trans (s6.trans (s7.trans s8)))) _ _ ha, hc8.trisD, fun x m => pt_some (rt.el x m), unkD, fi, fun v G9 s9 tv => ?_⟩
      have h9 := h8'.trans s9
      have tv : TripE G9 v (c.mk3 s) := tv
      have hc9 := hc.up h9
      obtain ⟨tt, u0, u1, u2, rfl, ht, tu0, tu1, tu2⟩ := tv
      have tv9 : TripE G9 (.ref tt) (c.mk3 s) := ⟨tt, u0, u1, u2, rfl, ht, tu0, tu1, tu2⟩
      obtain ⟨dw, Tw, rfl, ⟨hw1, hw2⟩, rw_⟩ := tu2
      refine ⟨_, rfl, tt, _, _, .ref dw, rfl, rfl, SqT.of ht, (show atI _ ((2 : Nat) : Int) = some _ from atI_nat rfl), _, .inr (.inr ⟨_, hw1, rfl⟩), ?_⟩
      rcases out with ⟨zero, rz⟩ | ⟨nz, go⟩
      · have := rw_.empty zero
        subst this
        refine ifY rfl ⟨_, rfl, SeqV.ix (k := 1) ⟨a, rfl, .inr ((s2.trans (s3.trans (s4.trans (s6.trans (s7.trans (s8.trans s9)))))) _ _ ha)⟩ rfl ?_⟩
        exact err_fin IM (.str _ (by omega)) (rz.up h9)
      have tne := nz _ rw_
      refine ifN (by cases Tw with | nil => exact absurd rfl tne | cons _ _ => rfl) ?_
      have ha9 := (s2.trans (s3.trans (s4.trans (s6.trans (s7.trans (s8.trans s9)))))) _ _ ha
      have hl9 := ((s6.trans (s7.trans (s8.trans s9)))) _ _ hl4
      have hob9 := h9 _ _ hob
      have hs9 := (s2.trans (s3.trans (s4.trans (s6.trans (s7.trans (s8.trans s9)))))) _ _ hs1
      obtain ⟨tkvs, ht9, htr9⟩ := hc9.tr
      have hsp9 := pair_imp (fun _ _ q => StepAt.up q (s2.trans (s3.trans (s4.trans (s6.trans (s7.trans (s8.trans s9))))))) hsp
      have lp : l4 ≠ o.p := fun z => by rw [z, hob] at f4; cases f4
      have ls : l4 ≠ o.s := fun z => by
        obtain ⟨q1, q2, _⟩ := hc.st
        rw [z, q2] at f4; cases f4
      have lt : l4 ≠ o.t := fun z => by
        obtain ⟨q1, q2, _⟩ := hc.tr
        rw [z, q2] at f4; cases f4
      obtain ⟨fin, cg⟩ := add_heap hc9 ck rt ha9 tv9 hl9 lp ls lt hob9 hs9 hsp9 ht9 htr9
      have ps : o.p ≠ o.s := fun z => by rw [z, hs9] at hob9; cases hob9
      have pt : o.p ≠ o.t := fun z => by rw [z, ht9] at hob9; cases hob9
      have st : o.s ≠ o.t := fun z => by rw [z, ht9] at hs9; cases hs9
      have as_ : a ≠ o.s := fun z => by rw [z, hs9] at ha9; cases ha9
      have ap : a ≠ o.p := fun z => by rw [z, hob9] at ha9; cases ha9
      have tl := Paired.length htr9
      have tl2 := ck.triLen
      refine ⟨_, rfl, o.p, C, dx, _, _, rfl, hob9, CT.cl, CT.nS, f_steps, .inl ⟨rfl, svs, SqL.of hs9⟩, _, rfl, o.s, svs, _, rfl, rfl, hs9, by rw [lsv, sizeLine_eq]; omega, ?_⟩
      refine ⟨_, rfl, _, rfl, o.p, C, dx, _, rfl, (upd_ne ps).trans hob9, CT.cl, CT.nU, (by show 3 < 1000; decide), ?_⟩
      rw [put_unk]
      refine ⟨_, rfl, _, rfl, o.p, C, dx, _, _, rfl, upd_same, CT.cl, CT.nT, f_tri, _, rfl, SeqV.ix (k := 1) ⟨a, rfl, .inr ((upd_ne ap).trans ((upd_ne as_).trans ha9))⟩ rfl ?_⟩
      refine ⟨o.t, _, rfl, DPut.k (k := eS s.nm) ((upd_ne (Ne.symm pt)).trans ((upd_ne (Ne.symm st)).trans ht9)) (by rw [sizeLine_eq]; omega), ?_⟩
      exact go _ l4 fin (fun b x q m => cg b x (h9 _ _ q) m) f4
end
end CN

set_option Elab.async false
set_option linter.all false
set_option maxRecDepth 100000
set_option maxHeartbeats 4000000
set_option autoImplicit false
/-! A list or a tuple, whichever. Speaks of no program. -/
namespace CN
open PySem L2
/-- a list (b) or a tuple -/
def SqB (b : Bool) (K : PySem.W.Frag) (H : Hp) (a : Addr) (xs : List V) : Prop := if b = true then SqL K H a xs else SqT K H a xs
def ItB (b : Bool) (K : PySem.W.Frag) (a : Addr) : It := if b = true then Itl K a else Itt K a
def iSeqB (b : Bool) (K : PySem.W.Frag) (te : TE) : TI := if b = true then iList K te else iTup K te
theorem pi_seqB {X : Cx} {tg l : Expr} {te : TE} (b : Bool) (hl : PE X l te) : PI X tg l (iSeqB b X.K te) := by
  cases b
  · exact pi_tup hl
  · exact pi_list hl
theorem walk_seqB {K : PySem.W.Frag} {a : Addr} {xs : List V} (b : Bool) : Walk (ItB b K a) xs.length (fun H => SqB b K H a xs) (YAt xs) := by
  cases b
  · exact walk_tup
  · exact walk_list
theorem seqB_go {b : Bool} {K : PySem.W.Frag} {i : Nat} {σ : St} {H : Hp} {R : It → Hp → Prop} {a : Addr} {xs : List V} (hs : σ[i]? = some (some (.ref a))) (h : SqB b K H a xs) (r : R (ItB b K a) H) : iSeqB b K (tVar i) σ H R := by
  cases b
  · exact ⟨_, hs, a, rfl, ⟨xs, h⟩, r⟩
  · exact ⟨_, hs, a, rfl, ⟨xs, h⟩, r⟩
theorem SeqV.sqB {K : PySem.W.Frag} {H : Hp} {v : V} {us : List V} (h : SeqV H v us) : ∃ (a : Addr) (b : Bool), v = .ref a ∧ (∀ G, Same H G → SqB b K G a us) ∧ ∀ D G, Chg D H G → a ∉ D → SqB b K G a us := by
  obtain ⟨a, e, h⟩ := h
  rcases h with h | h
  · exact ⟨a, true, e, fun G s => SqL.of (s _ _ h), fun D G c n => SqL.of (c _ _ h n)⟩
  · exact ⟨a, false, e, fun G s => SqT.of (s _ _ h), fun D G c n => SqT.of (c _ _ h n)⟩
end CN

set_option Elab.async false
set_option linter.all false
set_option maxRecDepth 100000
set_option maxHeartbeats 4000000
set_option autoImplicit false
set_option pp.maxSteps 300
/-! Displays of steps: lists of tuples. Speaks of no program. -/
namespace CN
open PySem L2 K1D K2P
/-- it comes to v and changes nothing -/
def Pure (σ : L2.St) (t : TE) (v : V) : Prop := ∀ (G : Hp) (Q : VK), Q v G → t σ G Q
theorem pure_c {σ : L2.St} {v : V} : Pure σ (tC v) v := fun _ _ q => q
theorem pure_v {σ : L2.St} {i : Nat} {v : V} (h : σ[i]? = some (some v)) : Pure σ (tVar i) v := fun _ _ q => ⟨_, h, q⟩
theorem pure_neg {σ : L2.St} {t : TE} {k : Int} (h : Pure σ t (.int k)) : Pure σ (tUn (rU fun i => .int (-i)) t) (.int (-k)) := fun G Q q => h G _ ⟨k, rfl, q⟩
def mkA : List TE → TA
  | [] => tNil
  | t :: ts => tCons t (mkA ts)
theorem args_pure {σ : L2.St} : ∀ {ts : List TE} {vs : List V}, Paired (Pure σ) ts vs → ∀ {H : Hp} {Q : List V → Hp → Prop}, Q vs H → mkA ts σ H Q
  | _, _, .nil, H, Q, q => q
  | _, _, .cons p r, H, Q, q => p H _ (args_pure r q)
theorem tup_pure {σ : L2.St} {ts : List TE} {vs : List V} {H : Hp} {Q : VK} (h : Paired (Pure σ) ts vs) (l : vs.length ≤ 1000) (go : ∀ p, H p = none → Q (.ref p) (upd H p (.tup vs))) : tTup (mkA ts) σ H Q :=
  args_pure h (Q := fun vs H1 => vs.length ≤ sizeLine ∧ ∀ p, H1 p = none → Q (.ref p) (upd H1 p (.tup vs))) ⟨by rw [sizeLine_eq]; omega, go⟩
/-- tuples of steps, one after another -/
theorem steps_args {σ : L2.St} : ∀ {tss : List (List TE)} {ss : List Stp}, Paired (fun ts (s : Stp) => Paired (Pure σ) ts s.vals ∧ s.vals.length ≤ 1000) tss ss → ∀ {H : Hp} {Q : List V → Hp → Prop},
    (∀ G us, Same H G → Paired (StepAt G) us ss → Q us G) → mkA (tss.map fun ts => tTup (mkA ts)) σ H Q
  | _, _, .nil, H, Q, go => go H [] (Same.refl H) .nil
  | ts :: tss, s :: ss, .cons p r, H, Q, go => by
    show tCons (tTup (mkA ts)) (mkA (tss.map fun ts => tTup (mkA ts))) σ H Q
    refine tup_pure p.1 p.2 fun a na => ?_
    refine steps_args r fun G us sG h => ?_
    exact go G (.ref a :: us) ((same_new na).trans sG) (.cons ⟨a, rfl, sG _ _ upd_same⟩ h)
theorem steps_lst {σ : L2.St} {tss : List (List TE)} {ss : List Stp} {H : Hp} {Q : VK} (h : Paired (fun ts (s : Stp) => Paired (Pure σ) ts s.vals ∧ s.vals.length ≤ 1000) tss ss) (l : ss.length ≤ 1000)
    (go : ∀ G D us, Same H G → H D = none → G D = some (.lst us) → Paired (StepAt G) us ss → Q (.ref D) G) : tLst (mkA (tss.map fun ts => tTup (mkA ts))) σ H Q := by
  refine steps_args h (Q := fun vs H1 => vs.length ≤ sizeLine ∧ ∀ p, H1 p = none → Q (.ref p) (upd H1 p (.lst vs))) fun G us sG hu => ⟨?_, fun D nD => ?_⟩
  · rw [Paired.length hu, sizeLine_eq]; omega
  · refine go _ D us (sG.trans (same_new nD)) ?_ upd_same (pair_imp (fun _ _ q => q.up (same_new nD)) hu)
    cases q : H D with
    | none => rfl
    | some x => rw [sG _ _ q] at nD; cases nD
theorem pair_app {α β : Type} {F : α → β → Prop} : ∀ {l1 : List α} {m1 : List β} {l2 : List α} {m2 : List β}, Paired F l1 m1 → Paired F l2 m2 → Paired F (l1 ++ l2) (m1 ++ m2)
  | _, _, _, _, .nil, h => h
  | _, _, _, _, .cons a r, h => .cons a (pair_app r h)
/-- found + [..] -/
theorem steps_cat {σ : L2.St} {i : Nat} {D : Addr} {us : List V} {ss0 : List Stp} {tss : List (List TE)} {ss : List Stp} {H : Hp} {Q : VK} (hs : σ[i]? = some (some (.ref D))) (hD : H D = some (.lst us)) (hu : Paired (StepAt H) us ss0) (h : Paired (fun ts (s : Stp) => Paired (Pure σ) ts s.vals ∧ s.vals.length ≤ 1000) tss ss) (l : ss0.length + ss.length ≤ 1000)
    (go : ∀ G D2 us2, Same H G → H D2 = none → G D2 = some (.lst us2) → Paired (StepAt G) us2 (ss0 ++ ss) → Q (.ref D2) G) : tOp rCat (tVar i) (tLst (mkA (tss.map fun ts => tTup (mkA ts)))) σ H Q := by
  refine ⟨_, hs, ?_⟩
  refine steps_lst h (by omega) fun G D1 us1 sG nD1 hD1 hu1 => ?_
  refine ⟨D, D1, us, us1, rfl, rfl, sG _ _ hD, hD1, ?_, fun D2 nD2 => ?_⟩
  · rw [Paired.length hu, Paired.length hu1, sizeLine_eq]; omega
  · refine go _ D2 (us ++ us1) (sG.trans (same_new nD2)) ?_ upd_same (pair_imp (fun _ _ q => q.up (same_new nD2)) (pair_app (pair_imp (fun _ _ q => q.up sG) hu) hu1))
    cases q : H D2 with
    | none => rfl
    | some x => rw [sG _ _ q] at nD2; cases nD2
/-- found.append(..) -/
theorem steps_app {K : PySem.W.Frag} {σ : L2.St} {i : Nat} {D : Addr} {us : List V} {ss0 : List Stp} {ts : List TE} {s : Stp} {H : Hp} {Q : VK} (hs : σ[i]? = some (some (.ref D))) (hD : H D = some (.lst us)) (hu : Paired (StepAt H) us ss0) (h : Paired (Pure σ) ts s.vals) (l1 : s.vals.length ≤ 1000) (l : ss0.length ≤ 1000)
    (go : ∀ G us2, (∀ b o, H b = some o → b ≠ D → G b = some o) → G D = some (.lst us2) → Paired (StepAt G) us2 (ss0 ++ [s]) → Q .non G) : tBM K "list" rAppend (tVar i) (tCons (tTup (mkA ts)) tNil) σ H Q := by
  refine ⟨_, hs, .inl ⟨rfl, us, SqL.of hD⟩, ?_⟩
  refine tup_pure h l1 fun t nt => ?_
  have hD2 := same_new (o := .tup s.vals) nt _ _ hD
  have tD : t ≠ D := fun z => by rw [z, hD] at nt; cases nt
  refine ⟨D, us, _, rfl, rfl, hD2, by rw [Paired.length hu, sizeLine_eq]; omega, ?_⟩
  refine go _ (us ++ [.ref t]) (fun b o q ne => (upd_ne ne).trans (same_new nt _ _ q)) upd_same (pair_snoc ⟨t, rfl, (upd_ne tD).trans upd_same⟩ (pair_imp (fun x y q => ?_) hu))
  obtain ⟨a, e, q⟩ := q
  have aD : a ≠ D := fun z => by rw [z, hD] at q; cases q
  exact ⟨a, e, (upd_ne aD).trans (same_new nt _ _ q)⟩
theorem none_up {H G : Hp} {b : Addr} (s : Same H G) (n : G b = none) : H b = none := by
  cases q : H b with
  | none => rfl
  | some x => rw [s _ _ q] at n; cases n
theorem cut_six (x0 x1 x2 x3 x4 x5 : V) (r : List V) : cutV (x0 :: x1 :: x2 :: x3 :: x4 :: x5 :: r) none (some 6) = [x0, x1, x2, x3, x4, x5] := by
  unfold cutV
  rw [show HT.sIx (x0 :: x1 :: x2 :: x3 :: x4 :: x5 :: r).length (x0 :: x1 :: x2 :: x3 :: x4 :: x5 :: r).length (some 6) = min 6 (x0 :: x1 :: x2 :: x3 :: x4 :: x5 :: r).length from HT.sIx_nat _ _ 6, HT.sIx_none, Nat.min_eq_left (by simp only [List.length_cons]; omega)]
  rfl
/-! the same as statements -/
section
variable {K : PySem.W.Frag} {σ : L2.St} {i : Nat} {D : Addr} {us : List V} {ss0 ss : List Stp} {s : Stp} {ts : List TE} {tss : List (List TE)} {H : Hp} {E : Ends} {rest : TS}
theorem st_re {T : TS} {σ2 : L2.St} (e : σ = σ2) (h : T E σ2 H) : T E σ H := by
  rw [e]
  exact h
def tStp (ts : List TE) : TE := tTup (mkA ts)
theorem st_slst (h : Paired (fun ts (s : Stp) => Paired (Pure σ) ts s.vals ∧ s.vals.length ≤ 1000) tss ss) (l : ss.length ≤ 1000) (go : ∀ G D us, Same H G → H D = none → G D = some (.lst us) → Paired (StepAt G) us ss → rest E (σ.set i (some (.ref D))) G) :
    (tSeq (tAsg (tLst (mkA (tss.map tStp))) (gName i)) rest) E σ H := steps_lst (Q := fun x H1 => rest E (σ.set i (some x)) H1) h l go
theorem st_scat (hs : σ[i]? = some (some (.ref D))) (hD : H D = some (.lst us)) (hu : Paired (StepAt H) us ss0) (h : Paired (fun ts (s : Stp) => Paired (Pure σ) ts s.vals ∧ s.vals.length ≤ 1000) tss ss) (l : ss0.length + ss.length ≤ 1000)
    (go : ∀ G D2 us2, Same H G → H D2 = none → G D2 = some (.lst us2) → Paired (StepAt G) us2 (ss0 ++ ss) → rest E (σ.set i (some (.ref D2))) G) : (tSeq (tAsg (tOp rCat (tVar i) (tLst (mkA (tss.map tStp)))) (gName i)) rest) E σ H := steps_cat (Q := fun x H1 => rest E (σ.set i (some x)) H1) hs hD hu h l go
theorem st_scatr (hs : σ[i]? = some (some (.ref D))) (hD : H D = some (.lst us)) (hu : Paired (StepAt H) us ss0) (h : Paired (fun ts (s : Stp) => Paired (Pure σ) ts s.vals ∧ s.vals.length ≤ 1000) tss ss) (l : ss0.length + ss.length ≤ 1000)
    (go : ∀ G D2 us2, Same H G → H D2 = none → G D2 = some (.lst us2) → Paired (StepAt G) us2 (ss0 ++ ss) → E.rt (.ref D2) G) : (tRet (tOp rCat (tVar i) (tLst (mkA (tss.map tStp))))) E σ H := steps_cat (Q := E.rt) hs hD hu h l go
theorem st_sapp (hs : σ[i]? = some (some (.ref D))) (hD : H D = some (.lst us)) (hu : Paired (StepAt H) us ss0) (h : Paired (Pure σ) ts s.vals) (l1 : s.vals.length ≤ 1000) (l : ss0.length ≤ 1000)
    (go : ∀ G us2, (∀ b o, H b = some o → b ≠ D → G b = some o) → G D = some (.lst us2) → Paired (StepAt G) us2 (ss0 ++ [s]) → rest E σ G) : (tSeq (tDrop (tBM K "list" rAppend (tVar i) (tCons (tStp ts) tNil))) rest) E σ H := steps_app (Q := fun _ H1 => rest E σ H1) hs hD hu h l1 l go
end
end CN

set_option Elab.async false
set_option linter.all false
set_option maxRecDepth 100000
set_option maxHeartbeats 4000000
set_option autoImplicit false
set_option pp.maxSteps 300
/-! Construction: steps, points, unknowns, copy; built. -/
namespace CN
open PySem L2 K1D K2P
open K4 (isNm)
abbrev sSteps : Stmt := inClass (K2P.top 60) 3
abbrev sPoints : Stmt := inClass (K2P.top 60) 4
abbrev sUnks : Stmt := inClass (K2P.top 60) 5
abbrev sCopy : Stmt := inClass (K2P.top 60) 9
abbrev sBuilt : Stmt := K2P.top 61
def spSteps (C : Addr) : Sp := fun vs H Q _ => ∃ (o : Own) (c : Cst), vs = [.ref o.p] ∧ ConAt C H o c ∧ ∀ (p : Addr) (svs : List V) (G : Hp), Same H G → H p = none → G p = some (.tup svs) → Paired (StepAt G) svs c.steps → Q (.ref p) G
def spPoints (C : Addr) : Sp := fun vs H Q _ => ∃ (o : Own) (c : Cst), vs = [.ref o.p] ∧ ConAt C H o c ∧ ∀ (p : Addr) (G : Hp), Same H G → H p = none → G p = some (.tup (c.names.map V.str)) → Q (.ref p) G
def spUnks (C : Addr) : Sp := fun vs H Q _ => ∃ (o : Own) (c : Cst), vs = [.ref o.p] ∧ ConAt C H o c ∧ ∀ (p : Addr) (G : Hp), Same H G → H p = none → G p = some (.tup (c.unk.map V.str)) → Q (.ref p) G
/-- all its addresses are new -/
structure Own.New (o : Own) (H : Hp) : Prop where
  p : H o.p = none
  s : H o.s = none
  u : H o.u = none
  t : H o.t = none
def spCopy (C : Addr) : Sp := fun vs H Q _ => ∃ (o : Own) (c : Cst), vs = [.ref o.p] ∧ ConAt C H o c ∧ ∀ (o2 : Own) (G : Hp), Same H G → o2.New H → ConAt C G o2 c → Q (.ref o2.p) G
/-- how one step is taken, or not -/
def AddOut (CS CI CM : Addr) (H : Hp) (E : XK) (c : Cst) (x : V) (K : Cst → Prop) : Prop :=
  (NoSeq x ∧ Raises CS "at" (.int 0) H E) ∨ ∃ us, SeqV H x us ∧ Pls H us ∧ us.length < 1000000 ∧ (∀ k, chkAt c.names us = some k → Raises CS "at" (.int ((k : Nat) : Int)) H E) ∧
    (chkAt c.names us = none → ∃ s, us = s.vals ∧ Right c.names s ∧ (c.steps.length = 12 → Raises CM "word" (.str "points") H E) ∧
      (c.steps.length < 12 → 8 < (c.unk ++ newUnk s).length → Raises CM "word" (.str "unknowns") H E) ∧
      (c.steps.length < 12 → (c.unk ++ newUnk s).length ≤ 8 → Fine3 (c.mk3 s) ∧ (((∀ v, evX v (c.mk3 s).w = 0) ∧ Raises CI "name" (.str s.nm) H E) ∨ (NZ (c.mk3 s).w ∧ K (c.add s)))))
def BldOut (CS CI CM : Addr) (H : Hp) (E : XK) (K : Cst → Prop) : Cst → List V → Prop
  | c, [] => K c
  | c, x :: xs => AddOut CS CI CM H E c x fun c' => BldOut CS CI CM H E K c' xs
def spBuilt (C CS CI CM CV : Addr) : Sp := fun vs H Q E => ∃ x : V, vs = [x] ∧ ((NoSeq x ∧ Raises CV "at" (.int 0) H E) ∨ ∃ xs, SeqV H x xs ∧
  BldOut CS CI CM H E (fun c => ∀ (o : Own) (G : Hp), ConAt C G o c → Cok c → Same H G → o.New H → Q (.ref o.p) G) Cst.new xs)
theorem AddOut.sp {C CS CI CM : Addr} {H G : Hp} {E : XK} {o : Own} {c : Cst} {x : V} {K : Cst → Prop} {Q : VK} (s : Same H G) (hc : ConAt C G o c) (ck : Cok c) (h : AddOut CS CI CM H E c x K) (go : ∀ (st : Stp), Cok (c.add st) → K (c.add st) → ∀ (F : Hp) (u : Addr), ConAt C F ⟨o.p, o.s, u, o.t⟩ (c.add st) → Chg [o.p, o.s, o.t] G F → G u = none → Q .non F) :
    spAdd C CS CI CM [.ref o.p, x] G Q E := by
  refine ⟨o, c, x, rfl, hc, ck, ?_⟩
  rcases h with ⟨ns, r⟩ | ⟨us, sq, pl, lu, bad, good⟩
  · exact .inl ⟨ns, r.up s⟩
  · refine .inr ⟨us, sq.up s, pl.up s, lu, fun k e => (bad k e).up s, fun e => ?_⟩
    obtain ⟨st, rfl, rt, r1, r2, r3⟩ := good e
    refine ⟨st, rfl, rt, fun e => (r1 e).up s, fun a b => (r2 a b).up s, fun a b => ?_⟩
    obtain ⟨fi, out⟩ := r3 a b
    refine ⟨fi, ?_⟩
    rcases out with ⟨z, r⟩ | ⟨nz, k⟩
    · exact .inl ⟨z, r.up s⟩
    · exact .inr ⟨nz, fun F u c1 cg nu => go st (ck.add rt a b) k F u c1 cg nu⟩
theorem put_steps {o : Own} (l : Addr) : putF "_steps" (.ref l) (cF o) = cF ⟨o.p, l, o.u, o.t⟩ := rfl
theorem put_tri {o : Own} (t : Addr) : putF "_triples" (.ref t) (cF o) = cF ⟨o.p, o.s, o.u, t⟩ := by
  have n1 : ¬ (("_steps" : Str) = "_triples") := by decide +kernel
  have n2 : ¬ (("_unknowns" : Str) = "_triples") := by decide +kernel
  show (if ("_steps" : Str) = "_triples" then _ else (("_steps" : Str), V.ref o.s) :: (if ("_unknowns" : Str) = "_triples" then _ else (("_unknowns" : Str), V.ref o.u) :: (if ("_triples" : Str) = "_triples" then [(("_triples" : Str), V.ref t)] else _))) = _
  rw [if_neg n1, if_neg n2, if_pos rfl]
  rfl
section
variable {P : Program} {w : World} {K : PySem.W.Frag} {mg : Str → Option Value} {base : Heap} {C CS CI CM CV B fU fQ fA fV : Addr} {dU dQ dA dV : FuncData}
theorem scSteps : FnScope ["self"] ["self"] (defScope sSteps) := ⟨rfl, rfl, rfl, by decide +kernel, rfl, by decide +kernel, by decide +kernel⟩
theorem scPoints : FnScope ["self"] ["self"] (defScope sPoints) := ⟨rfl, rfl, rfl, by decide +kernel, rfl, by decide +kernel, by decide +kernel⟩
theorem scUnks : FnScope ["self"] ["self"] (defScope sUnks) := ⟨rfl, rfl, rfl, by decide +kernel, rfl, by decide +kernel, by decide +kernel⟩
theorem scCopy : FnScope ["self", "twin"] ["self"] (defScope sCopy) := ⟨rfl, rfl, rfl, by decide +kernel, rfl, by decide +kernel, by decide +kernel⟩
theorem scBuilt : FnScope ["steps", "found", "step"] ["steps"] (defScope sBuilt) := ⟨rfl, rfl, rfl, by decide +kernel, rfl, by decide +kernel, by decide +kernel⟩
theorem ok_steps {f : Addr} {fd : FuncData} (F : Fun K "steps" "Construction.steps" sSteps f fd) (T : KindTxt K mg) (CT : ConTxt K mg C) : FnOk P w K mg base CX0 1 f fd ["self"] (spSteps C) := by
  refine F.ok scSteps (fun vs H Q E h => ?_) (fun cdv A outer s H vs Q E hr h => ?_)
  · obtain ⟨o, c, rfl, _⟩ := h
    rfl
  · obtain ⟨o, c, rfl, hc, go⟩ := h
    refine ⟨_, (pss_one (ps_ret (pe_tupleOf (by rfl) T.tuple (pe_fld (pv 0) rfl)))), ?_⟩
    obtain ⟨dx, hob⟩ := hc.ob
    obtain ⟨svs, hs, hsp⟩ := hc.st
    refine ⟨_, rfl, o.p, C, dx, _, _, rfl, hob, CT.cl, CT.nS, f_steps, .inl ⟨o.s, svs, rfl, SqL.of hs, fun q nq => ?_⟩⟩
    exact go q svs _ (same_new nq) nq upd_same (pair_imp (fun _ _ h => h.up (same_new nq)) hsp)
theorem ok_unks {f : Addr} {fd : FuncData} (F : Fun K "unknowns" "Construction.unknowns" sUnks f fd) (T : KindTxt K mg) (CT : ConTxt K mg C) : FnOk P w K mg base CX0 1 f fd ["self"] (spUnks C) := by
  refine F.ok scUnks (fun vs H Q E h => ?_) (fun cdv A outer s H vs Q E hr h => ?_)
  · obtain ⟨o, c, rfl, _⟩ := h
    rfl
  · obtain ⟨o, c, rfl, hc, go⟩ := h
    refine ⟨_, (pss_one (ps_ret (pe_tupleOf (by rfl) T.tuple (pe_fld (pv 0) rfl)))), ?_⟩
    obtain ⟨dx, hob⟩ := hc.ob
    refine ⟨_, rfl, o.p, C, dx, _, _, rfl, hob, CT.cl, CT.nU, f_unk, .inl ⟨o.u, _, rfl, SqL.of hc.un, fun q nq => ?_⟩⟩
    exact go q _ (same_new nq) nq upd_same
theorem ok_points {f : Addr} {fd : FuncData} (F : Fun K "points" "Construction.points" sPoints f fd) (T : KindTxt K mg) (CT : ConTxt K mg C) : FnOk P w K mg base CX0 1 f fd ["self"] (spPoints C) := by
  refine F.ok scPoints (fun vs H Q E h => ?_) (fun cdv A outer s H vs Q E hr h => ?_)
  · obtain ⟨o, c, rfl, _⟩ := h
    rfl
  · obtain ⟨o, c, rfl, hc, go⟩ := h
    refine ⟨_, (pss_one (ps_ret (pe_callTy (call_tupleD rfl) (by rfl) T.tuple (by decide +kernel) (pa_cons (pe_fld (pv 0) rfl) pa_nil)))), ?_⟩
    obtain ⟨dx, hob⟩ := hc.ob
    obtain ⟨kvs, ht, htr⟩ := hc.tr
    refine ⟨_, rfl, o.p, C, dx, _, _, rfl, hob, CT.cl, CT.nT, f_tri, o.t, kvs, rfl, .inl ht, fun q nq => ?_⟩
    have e := htr.keys
    rw [e]
    exact go q _ (same_new nq) nq upd_same
theorem ok_copy {f : Addr} {fd : FuncData} (F : Fun K "copy" "Construction.copy" sCopy f fd) (T : KindTxt K mg) (CT : ConTxt K mg C) (gD : mg "dict" = none) (MC : Mk K C fU) (UI : InitT P w K mg base 1 ["self"] (spCInit C) fU dU) : FnOk P w K mg base CX0 3 f fd ["self"] (spCopy C) := by
  refine F.ok scCopy (fun vs H Q E h => ?_) (fun cdv A outer s H vs Q E hr h => ?_)
  · obtain ⟨o, c, rfl, _⟩ := h
    rfl
  · obtain ⟨o, c, rfl, hc, go⟩ := h
    refine ⟨_, (pss_cons (ps_set (i := 1) scCopy.nd rfl (Or.inl rfl) (pe_make0 MC UI.ok (hr.mono (by decide)) rfl CT.gC UI.b .nil pass0))
      (pss_cons (ps_fld (pv 1) (pe_callTy call_list_of (by rfl) T.list (by decide +kernel) (pa_cons (pe_fld (pv 0) rfl) pa_nil)) rfl)
      (pss_cons (ps_fld (pv 1) (pe_callTy call_list_of (by rfl) T.list (by decide +kernel) (pa_cons (pe_fld (pv 0) rfl) pa_nil)) rfl)
      (pss_cons (ps_fld (pv 1) (pe_callTy call_dictD (by rfl) gD (by decide +kernel) (pa_cons (pe_fld (pv 0) rfl) pa_nil)) rfl)
      (pss_one (ps_ret (pv 1))))))), ?_⟩
    intro x1 d1 nx nd ne
    have s0 : Same H (upd (upd H d1 (.own x1)) x1 (.ins C d1 [])) := fun b z q => (upd_ne (ne_of_none q nx)).trans ((upd_ne (ne_of_none q nd)).trans q)
    have old : ∀ b, upd (upd H d1 (.own x1)) x1 (.ins C d1 []) b = none → H b = none := fun b z => by
      cases q : H b with
      | none => rfl
      | some y => rw [s0 _ _ q] at z; cases z
    refine ⟨x1, d1, rfl, upd_same, fun o1 G1 ep c1 k1 n1 n2 n3 => ⟨rfl, ?_⟩⟩
    have s1 : Same H G1 := fun b z q => k1 _ _ (s0 _ _ q) (ne_of_none q nx)
    obtain ⟨p1, a1, b1, t1⟩ := o1
    have ep : p1 = x1 := ep
    subst ep
    have hc1 := hc.up s1
    obtain ⟨dx1, hob1⟩ := hc1.ob
    obtain ⟨svs, hs1, _⟩ := hc1.st
    obtain ⟨e1, he1⟩ := c1.ob
    have he1 : G1 p1 = some (.ins C e1 (cF ⟨p1, a1, b1, t1⟩)) := he1
    refine ⟨_, rfl, o.p, C, dx1, _, _, rfl, hob1, CT.cl, CT.nS, f_steps, o.s, svs, rfl, .inl (SqL.of hs1), fun l nl => ?_⟩
    refine ⟨_, rfl, p1, C, e1, _, rfl, same_new nl _ _ he1, CT.cl, CT.nS, (by show 3 < 1000; decide), ?_⟩
    rw [put_steps]
    have s2 : Same H (upd (upd G1 l (.lst svs)) p1 (.ins C e1 (cF ⟨p1, l, b1, t1⟩))) := fun b z q => (upd_ne (ne_of_none q nx)).trans (same_new nl _ _ (s1 _ _ q))
    have he2 : upd (upd G1 l (.lst svs)) p1 (.ins C e1 (cF ⟨p1, l, b1, t1⟩)) p1 = some (.ins C e1 (cF ⟨p1, l, b1, t1⟩)) := upd_same
    have pl : p1 ≠ l := ne_of_none he1 nl
    have hl2 : upd (upd G1 l (.lst svs)) p1 (.ins C e1 (cF ⟨p1, l, b1, t1⟩)) l = some (.lst svs) := (upd_ne (Ne.symm pl)).trans upd_same
    have nlH : H l = none := by
      cases q : H l with
      | none => rfl
      | some y => rw [s1 _ _ q] at nl; cases nl
    generalize upd (upd G1 l (.lst svs)) p1 (.ins C e1 (cF ⟨p1, l, b1, t1⟩)) = G2 at s2 he2 hl2 ⊢
    have hc2 := hc.up s2
    obtain ⟨dx2, hob2⟩ := hc2.ob
    refine ⟨_, rfl, o.p, C, dx2, _, _, rfl, hob2, CT.cl, CT.nU, f_unk, o.u, _, rfl, .inl (SqL.of hc2.un), fun m nm => ?_⟩
    refine ⟨_, rfl, p1, C, e1, _, rfl, same_new nm _ _ he2, CT.cl, CT.nU, (by show 3 < 1000; decide), ?_⟩
    rw [put_unk]
    have s3 : Same H (upd (upd G2 m (.lst (c.unk.map V.str))) p1 (.ins C e1 (cF ⟨p1, l, m, t1⟩))) := fun b z q => (upd_ne (ne_of_none q nx)).trans (same_new nm _ _ (s2 _ _ q))
    have he3 : upd (upd G2 m (.lst (c.unk.map V.str))) p1 (.ins C e1 (cF ⟨p1, l, m, t1⟩)) p1 = some (.ins C e1 (cF ⟨p1, l, m, t1⟩)) := upd_same
    have pm : p1 ≠ m := ne_of_none he2 nm
    have lm : l ≠ m := ne_of_none hl2 nm
    have hm3 : upd (upd G2 m (.lst (c.unk.map V.str))) p1 (.ins C e1 (cF ⟨p1, l, m, t1⟩)) m = some (.lst (c.unk.map V.str)) := (upd_ne (Ne.symm pm)).trans upd_same
    have hl3 : upd (upd G2 m (.lst (c.unk.map V.str))) p1 (.ins C e1 (cF ⟨p1, l, m, t1⟩)) l = some (.lst svs) := (upd_ne (Ne.symm pl)).trans ((upd_ne lm).trans hl2)
    have nmH : H m = none := by
      cases q : H m with
      | none => rfl
      | some y => rw [s2 _ _ q] at nm; cases nm
    generalize upd (upd G2 m (.lst (c.unk.map V.str))) p1 (.ins C e1 (cF ⟨p1, l, m, t1⟩)) = G3 at s3 he3 hm3 hl3 ⊢
    have hc3 := hc.up s3
    obtain ⟨dx3, hob3⟩ := hc3.ob
    obtain ⟨kvs, ht3, htr3⟩ := hc3.tr
    refine ⟨_, rfl, o.p, C, dx3, _, _, rfl, hob3, CT.cl, CT.nT, f_tri, o.t, kvs, rfl, .inl ht3, fun t nt => ?_⟩
    refine ⟨_, rfl, p1, C, e1, _, rfl, same_new nt _ _ he3, CT.cl, CT.nT, (by show 3 < 1000; decide), ?_⟩
    rw [put_tri]
    have s4 : Same H (upd (upd G3 t (.dK kvs)) p1 (.ins C e1 (cF ⟨p1, l, m, t⟩))) := fun b z q => (upd_ne (ne_of_none q nx)).trans (same_new nt _ _ (s3 _ _ q))
    have pt : p1 ≠ t := ne_of_none he3 nt
    have lt : l ≠ t := ne_of_none hl3 nt
    have mt : m ≠ t := ne_of_none hm3 nt
    have ntH : H t = none := by
      cases q : H t with
      | none => rfl
      | some y => rw [s3 _ _ q] at nt; cases nt
    have he4 : upd (upd G3 t (.dK kvs)) p1 (.ins C e1 (cF ⟨p1, l, m, t⟩)) p1 = some (.ins C e1 (cF ⟨p1, l, m, t⟩)) := upd_same
    have ht4 : upd (upd G3 t (.dK kvs)) p1 (.ins C e1 (cF ⟨p1, l, m, t⟩)) t = some (.dK kvs) := (upd_ne (Ne.symm pt)).trans upd_same
    have hm4 : upd (upd G3 t (.dK kvs)) p1 (.ins C e1 (cF ⟨p1, l, m, t⟩)) m = some (.lst (c.unk.map V.str)) := (upd_ne (Ne.symm pm)).trans ((upd_ne mt).trans hm3)
    have hl4 : upd (upd G3 t (.dK kvs)) p1 (.ins C e1 (cF ⟨p1, l, m, t⟩)) l = some (.lst svs) := (upd_ne (Ne.symm pl)).trans ((upd_ne lt).trans hl3)
    generalize upd (upd G3 t (.dK kvs)) p1 (.ins C e1 (cF ⟨p1, l, m, t⟩)) = G4 at s4 he4 ht4 hm4 hl4 ⊢
    have hc4 := hc.up s4
    obtain ⟨svs4, hs4, hsp4⟩ := hc4.st
    obtain ⟨kvs4, ht4', htr4⟩ := hc4.tr
    obtain ⟨svs0, hs0, _⟩ := hc.st
    obtain ⟨kvs0, ht0, _⟩ := hc.tr
    have ev : svs4 = svs := by
      have a := s1 _ _ hs0
      have b := s4 _ _ hs0
      rw [a] at hs1; rw [b] at hs4
      cases hs1; cases hs4
      rfl
    have ek : kvs4 = kvs := by
      have a := s3 _ _ ht0
      have b := s4 _ _ ht0
      rw [a] at ht3; rw [b] at ht4'
      cases ht3; cases ht4'
      rfl
    subst ev ek
    refine ⟨_, rfl, go ⟨p1, l, m, t⟩ G4 s4 ⟨nx, nlH, nmH, ntH⟩ ⟨⟨e1, he4⟩, ⟨_, hl4, hsp4⟩, hm4, ⟨_, ht4, htr4⟩, lm⟩⟩
theorem ok_built {f : Addr} {fd : FuncData} (F : Fun K "built" "built" sBuilt f fd) (T : KindTxt K mg) (CT : ConTxt K mg C) (MC : Mk K C fU) (UI : InitT P w K mg base 1 ["self"] (spCInit C) fU dU) (UQ : CallT P w K mg base CX0 1 "is_sequence" ["thing"] spIsSeq fQ dQ)
    (UA : MethX P w K mg base C 10 "add" ["self", "step"] (spAdd C CS CI CM) fA dA) (BV : ErrT P w K mg base "BadValue" "at" B CV fV dV) : FnOk P w K mg base (L2N.CX P w) 11 f fd ["steps"] (spBuilt C CS CI CM CV) := by
  refine okN F scBuilt (fun vs H Q E h => ?_) (fun cdv A outer s H vs Q E hr h => ?_)
  · obtain ⟨x, rfl, _⟩ := h
    rfl
  · obtain ⟨x, rfl, h⟩ := h
    obtain ⟨b, hb⟩ : ∃ b : Bool, ∀ xs, SeqV H x xs → ∃ a, x = .ref a ∧ (∀ G, Same H G → SqB b K G a xs) := by
      rcases h with ⟨ns, _⟩ | ⟨xs, sq, _⟩
      · exact ⟨true, fun xs ⟨a, e, _⟩ => by subst e; cases ns⟩
      · obtain ⟨a, rfl, q⟩ := sq
        rcases q with q | q
        · refine ⟨true, fun ys ⟨a2, e2, q2⟩ => ?_⟩
          cases e2
          rcases q2 with q2 | q2
          · exact ⟨a, rfl, fun G s => SqL.of (s _ _ q2)⟩
          · rw [q] at q2; cases q2
        · refine ⟨false, fun ys ⟨a2, e2, q2⟩ => ?_⟩
          cases e2
          rcases q2 with q2 | q2
          · rw [q] at q2; cases q2
          · exact ⟨a, rfl, fun G s => SqT.of (s _ _ q2)⟩
    refine ⟨_, (pss_cons (ps_if (pt_not (pt_val (pe_call UQ.ok (hr.mono (by decide)) rfl UQ.g UQ.k UQ.b .nil pass0 (pa_cons (pv 0) pa_nil)))) (pss_one (L2N.ps_raise rfl (L2N.takes_of rfl rfl rfl rfl) (pmk_err BV.err BV.iC BV.tI BV.ini (hr.mono (by decide)) BV.bd pass0 rfl BV.gC (pa_cons pe_int pa_nil)))) pss_nil)
      (pss_cons (ps_set (i := 1) scBuilt.nd rfl (Or.inl rfl) (pe_make0 MC UI.ok (hr.mono (by decide)) rfl CT.gC UI.b .nil pass0))
      (pss_cons (ps_for (passes_of rfl) rfl (pi_seqB b (pv 0)) (pg_name (i := 2) scBuilt.nd rfl (Or.inl rfl)) (pss_one (ps_expr (pe_methE (pv 1) CT.cl UA.m UA.ok (hr.mono (by decide)) UA.b (fun σ => L2N.passAt (L2N.takes_of rfl rfl rfl rfl) σ) (pa_cons (pv 2) pa_nil)))))
      (pss_one (ps_ret (pv 1)))))), ?_⟩
    rcases h with ⟨ns, rz⟩ | ⟨xs, sq, out⟩
    · refine ⟨_, rfl, x, false, rfl, .inr ⟨ns, rfl⟩, fun G sG => ⟨_, rfl, ifY rfl ?_⟩⟩
      exact err_fin BV (.int 0 (by decide)) (rz.up sG)
    obtain ⟨a, rfl, hsq⟩ := hb xs sq
    refine ⟨_, rfl, .ref a, true, rfl, .inl ⟨⟨xs, sq⟩, rfl⟩, fun G sG => ⟨_, rfl, ifN rfl ?_⟩⟩
    intro x1 d1 nx nd ne
    have s0 : Same G (upd (upd G d1 (.own x1)) x1 (.ins C d1 [])) := fun b z q => (upd_ne (ne_of_none q nx)).trans ((upd_ne (ne_of_none q nd)).trans q)
    have old : ∀ b, upd (upd G d1 (.own x1)) x1 (.ins C d1 []) b = none → H b = none := fun b z => by
      cases q : H b with
      | none => rfl
      | some y => rw [s0 _ _ (sG _ _ q)] at z; cases z
    have nxH : H x1 = none := by
      cases q : H x1 with
      | none => rfl
      | some y => rw [sG _ _ q] at nx; cases nx
    refine ⟨x1, d1, rfl, upd_same, fun o1 G1 ep c1 k1 n1 n2 n3 => ⟨rfl, ?_⟩⟩
    have s1 : Same H G1 := fun b z q => k1 _ _ (s0 _ _ (sG _ _ q)) (ne_of_none q nxH)
    refine seqB_go rfl (hsq G1 s1) ?_
    have lm : ∀ o : Own, (cF o).lookup ("add" : Str) = none := fun o => f_none (by decide +kernel) (by decide +kernel) (by decide +kernel)
    refine for_it (walk_seqB b) (fun i σ F => ∃ (u : Option V) (o : Own) (c : Cst), σ = [some (.ref a), some (.ref o.p), u] ∧ Same H F ∧ ConAt C F o c ∧ Cok c ∧ o.New H ∧ BldOut CS CI CM H E (fun c => ∀ (o : Own) (G : Hp), ConAt C G o c → Cok c → Same H G → o.New H → Q (.ref o.p) G) c (xs.drop i))
      ⟨_, o1, Cst.new, by rw [ep]; rfl, s1, c1, Cok.new, ⟨by rw [ep]; exact nxH, old _ n1, old _ n2, old _ n3⟩, out⟩ (fun i σ F hi ⟨u, o, c, hσ, sF, _⟩ => hsq F sF) (fun i y σ F F' hi ⟨u, o, c, hσ, sF, hc, ck, on, bo⟩ ⟨e, hy⟩ => ?_) (fun σ F ⟨u, o, c, hσ, sF, hc, ck, on, bo⟩ => ?_)
    · subst hσ e
      have hy : xs[i]? = some y := hy
      have hi2 := (List.getElem?_eq_some_iff.mp hy)
      rw [List.drop_eq_getElem_cons hi2.1, hi2.2] at bo
      obtain ⟨dx, hob⟩ := hc.ob
      refine ⟨_, rfl, o.p, dx, _, rfl, hob, lm o, _, rfl, AddOut.sp sF hc ck bo fun st ck2 k F2 u2 c2 cg nu => ?_⟩
      have s2 : Same H F2 := fun b z q => cg _ _ (sF _ _ q) fun m => by
        rcases List.mem_cons.mp m with rfl | m
        · rw [on.p] at q; cases q
        rcases List.mem_cons.mp m with rfl | m
        · rw [on.s] at q; cases q
        · obtain rfl := List.mem_singleton.mp m
          rw [on.t] at q; cases q
      have nuH : H u2 = none := by
        cases q : H u2 with
        | none => rfl
        | some y => rw [sF _ _ q] at nu; cases nu
      exact ⟨_, ⟨o.p, o.s, u2, o.t⟩, _, rfl, s2, c2, ck2, ⟨on.p, on.s, nuH, on.t⟩, k⟩
    · subst hσ
      rw [List.drop_eq_nil_of_le (Nat.le_refl _)] at bo
      exact ⟨_, rfl, bo o F hc ck sF on⟩
end
end CN

set_option Elab.async false
set_option linter.all false
set_option maxRecDepth 100000
set_option maxHeartbeats 4000000
set_option autoImplicit false
set_option pp.maxSteps 300
/-! Sizes of made points; rows of steps that can be added. Maths. -/
namespace CN
open PySem L2 K1D K2P
open K4 (isNm)
/-- numbers are small, variables below n -/
def LV (n : Nat) (e : Px) : Prop := Low 7 e ∧ Vars n e
theorem lv_num {n : Nat} {k : Int} (h : k.natAbs < 128) : LV n (.num k) := ⟨h, trivial⟩
theorem lv_var {n i : Nat} (h : i < n) : LV n (.var i) := ⟨trivial, h⟩
theorem lv_add {n : Nat} {a b : Px} (h : LV n a) (g : LV n b) : LV n (.add a b) := ⟨⟨h.1, g.1⟩, h.2, g.2⟩
theorem lv_sub {n : Nat} {a b : Px} (h : LV n a) (g : LV n b) : LV n (.sub a b) := ⟨⟨h.1, g.1⟩, h.2, g.2⟩
theorem lv_mul {n : Nat} {a b : Px} (h : LV n a) (g : LV n b) : LV n (.mul a b) := ⟨⟨h.1, g.1⟩, h.2, g.2⟩
theorem lv_scl {n : Nat} {a : Px} {k : Int} (h : LV n a) (g : k.natAbs < 128) : LV n (.scl a k) := ⟨⟨h.1, by omega, by omega⟩, h.2⟩
structure Q3 (n : Nat) (p : P3) : Prop where
  x : LV n p.x
  y : LV n p.y
  w : LV n p.w
theorem Q3.at {n : Nat} {p : P3} (h : Q3 n p) (k : Nat) : LV n (p.at k) := by
  unfold P3.at
  split
  · exact h.x
  · split
    · exact h.y
    · exact h.w
section
variable {n : Nat} {a b c d q : P3} {e f g : Px} {i j : Int}
theorem q_dif (h : Q3 n a) (g : Q3 n b) (k : Nat) : LV n (difX a b k) := lv_sub (lv_mul (g.at k) h.w) (lv_mul (h.at k) g.w)
theorem q_placed (h : LV n e) (g : LV n f) : Q3 n (placedX e f) := ⟨h, g, lv_num (by decide)⟩
theorem q_slid (h : Q3 n a) (g : Q3 n b) (t : LV n e) : Q3 n (slidX a b e) := ⟨lv_add (lv_mul (h.at 0) g.w) (lv_mul t (q_dif h g 0)), lv_add (lv_mul (h.at 1) g.w) (lv_mul t (q_dif h g 1)), lv_mul h.w g.w⟩
theorem q_part (h : Q3 n a) (g : Q3 n b) (hi : i.natAbs < 128) (hj : j.natAbs < 128) : Q3 n (partX a b i j) := ⟨lv_add (lv_scl (lv_mul (h.at 0) g.w) hj) (lv_scl (q_dif h g 0) hi), lv_add (lv_scl (lv_mul (h.at 1) g.w) hj) (lv_scl (q_dif h g 1) hi), lv_scl (lv_mul h.w g.w) hj⟩
theorem q_moved (h : Q3 n q) (h1 : LV n e) (h2 : LV n f) (h3 : LV n g) : Q3 n (movedX q e f g) := ⟨lv_add (lv_mul h.x h3) (lv_mul h.w h1), lv_add (lv_mul h.y h3) (lv_mul h.w h2), lv_mul h.w h3⟩
theorem q_shift (h : Q3 n q) (ha : Q3 n a) (hb : Q3 n b) : Q3 n (shiftX q a b) := q_moved h (q_dif ha hb 0) (q_dif ha hb 1) (lv_mul ha.w hb.w)
theorem q_turn (h : Q3 n q) (ha : Q3 n a) (hb : Q3 n b) : Q3 n (turnX q a b) := q_moved h (lv_scl (q_dif ha hb 1) (by decide)) (q_dif ha hb 0) (lv_mul ha.w hb.w)
theorem q_over (h : Q3 n q) (hc : Q3 n c) : Q3 n (overX q c) := ⟨lv_sub (lv_scl (lv_mul (hc.at 0) h.w) (by decide)) (lv_mul (h.at 0) hc.w), lv_sub (lv_scl (lv_mul (hc.at 1) h.w) (by decide)) (lv_mul (h.at 1) hc.w), lv_mul hc.w h.w⟩
theorem q_square (ha : Q3 n a) (hb : Q3 n b) : LV n (squareX a b) := lv_add (lv_mul (q_dif ha hb 0) (q_dif ha hb 0)) (lv_mul (q_dif ha hb 1) (q_dif ha hb 1))
theorem q_along (h : Q3 n q) (ha : Q3 n a) (hb : Q3 n b) : LV n (alongX q a b) := lv_add (lv_mul (q_dif ha h 0) (q_dif ha hb 0)) (lv_mul (q_dif ha h 1) (q_dif ha hb 1))
theorem q_foot (h : Q3 n q) (ha : Q3 n a) (hb : Q3 n b) : Q3 n (footX q a b) := ⟨lv_add (lv_mul ha.x (lv_mul h.w (q_square ha hb))) (lv_mul (q_along h ha hb) (q_dif ha hb 0)), lv_add (lv_mul ha.y (lv_mul h.w (q_square ha hb))) (lv_mul (q_along h ha hb) (q_dif ha hb 1)), lv_mul ha.w (lv_mul h.w (q_square ha hb))⟩
theorem q_cross (h : Q3 n a) (g : Q3 n b) : Q3 n (crossX a b) := ⟨lv_sub (lv_mul h.y g.w) (lv_mul h.w g.y), lv_sub (lv_mul h.w g.x) (lv_mul h.x g.w), lv_sub (lv_mul h.x g.y) (lv_mul h.y g.x)⟩
theorem q_meet (h : Q3 n a) (g : Q3 n b) (h2 : Q3 n c) (g2 : Q3 n d) : Q3 n (meetX a b c d) := q_cross (q_cross h g) (q_cross h2 g2)
theorem q_centre (h : Q3 n a) (g : Q3 n b) (k : Q3 n c) : Q3 n (centreX a b c) := q_meet (q_part h g (by decide) (by decide)) (q_turn (q_part h g (by decide) (by decide)) h g) (q_part h k (by decide) (by decide)) (q_turn (q_part h k (by decide) (by decide)) h k)
end
theorem q_mk {n : Nat} (wd : Wd) (ps : List P3) (es : List Px) (ns : List Int) (h1 : ∀ p ∈ ps, Q3 n p) (h2 : ∀ e ∈ es, LV n e) (h3 : ∀ k ∈ ns, k.natAbs < 128) : Q3 n (mkP wd ps es ns) := by
  unfold mkP
  split
  all_goals try simp only [List.mem_cons, List.not_mem_nil, or_false, forall_eq_or_imp, forall_eq] at h1 h2 h3
  · exact q_placed h2.1 h2.2
  · exact q_slid h1.1 h1.2 h2
  · exact q_part h1.1 h1.2 h3.1 h3.2
  · exact q_shift h1.1 h1.2.1 h1.2.2
  · exact q_turn h1.1 h1.2.1 h1.2.2
  · exact q_over h1.1 h1.2
  · exact q_over h1.1 (q_foot h1.1 h1.2.1 h1.2.2)
  · exact q_foot h1.1 h1.2.1 h1.2.2
  · exact q_meet h1.1 h1.2.1 h1.2.2.1 h1.2.2.2
  · exact q_over h1.1 (q_foot h1.2.2 h1.1 h1.2.1)
  · exact q_centre h1.1 h1.2.1 h1.2.2
  · exact q_placed (lv_num (by decide)) (lv_num (by decide))
/-! shapes: expressions without their numbers and variables -/
def shp : Px → Px
  | .num _ => .num 0
  | .var _ => .var 0
  | .add a b => .add (shp a) (shp b)
  | .sub a b => .sub (shp a) (shp b)
  | .mul a b => .mul (shp a) (shp b)
  | .scl a _ => .scl (shp a) 0
theorem shp_shp : ∀ e : Px, shp (shp e) = shp e
  | .num _ => rfl
  | .var _ => rfl
  | .add a b => by show Px.add _ _ = Px.add _ _; rw [shp_shp a, shp_shp b]
  | .sub a b => by show Px.sub _ _ = Px.sub _ _; rw [shp_shp a, shp_shp b]
  | .mul a b => by show Px.mul _ _ = Px.mul _ _; rw [shp_shp a, shp_shp b]
  | .scl a _ => by show Px.scl _ _ = Px.scl _ _; rw [shp_shp a]
theorem cnt_shp : ∀ e : Px, cnt (shp e) = cnt e
  | .num _ => rfl
  | .var _ => rfl
  | .add a b => by show _ + _ = _ + _; rw [cnt_shp a, cnt_shp b]
  | .sub a b => by show _ + _ = _ + _; rw [cnt_shp a, cnt_shp b]
  | .mul a b => by show _ * _ = _ * _; rw [cnt_shp a, cnt_shp b]
  | .scl a _ => cnt_shp a
theorem nb_shp (b : Nat) : ∀ e : Px, nb b (shp e) = nb b e
  | .num _ => rfl
  | .var _ => rfl
  | .add x y => by show max _ _ + 1 = max _ _ + 1; rw [nb_shp b x, nb_shp b y]
  | .sub x y => by show max _ _ + 1 = max _ _ + 1; rw [nb_shp b x, nb_shp b y]
  | .mul x y => by show _ + _ = _ + _; rw [nb_shp b x, nb_shp b y]
  | .scl x _ => by show _ + 64 = _ + 64; rw [nb_shp b x]
theorem dg_shp : ∀ e : Px, dg (shp e) = dg e
  | .num _ => rfl
  | .var _ => rfl
  | .add x y => by show max _ _ = max _ _; rw [dg_shp x, dg_shp y]
  | .sub x y => by show max _ _ = max _ _; rw [dg_shp x, dg_shp y]
  | .mul x y => by show _ + _ = _ + _; rw [dg_shp x, dg_shp y]
  | .scl x _ => dg_shp x
def shp3 (p : P3) : P3 := ⟨shp p.x, shp p.y, shp p.w⟩
theorem shp3_shp3 (p : P3) : shp3 (shp3 p) = shp3 p := by unfold shp3; rw [shp_shp, shp_shp, shp_shp]
theorem len0 {α : Type} : ∀ {l : List α}, l.length = 0 → l = []
  | [], _ => rfl
theorem len1 {α : Type} : ∀ {l : List α}, l.length = 1 → ∃ a, l = [a]
  | [a], _ => ⟨a, rfl⟩
theorem len2 {α : Type} : ∀ {l : List α}, l.length = 2 → ∃ a b, l = [a, b]
  | [a, b], _ => ⟨a, b, rfl⟩
theorem len3 {α : Type} : ∀ {l : List α}, l.length = 3 → ∃ a b c, l = [a, b, c]
  | [a, b, c], _ => ⟨a, b, c, rfl⟩
theorem len4 {α : Type} : ∀ {l : List α}, l.length = 4 → ∃ a b c d, l = [a, b, c, d]
  | [a, b, c, d], _ => ⟨a, b, c, d, rfl⟩
theorem shp3_mk (wd : Wd) (ps : List P3) (es : List Px) (ns : List Int) (h1 : ps.length = arP wd) (h2 : es.length = arU wd) (h3 : ns.length = arN wd) : shp3 (mkP wd ps es ns) = shp3 (mkP wd (ps.map shp3) (es.map shp) (ns.map fun _ => 0)) := by
  cases wd
  all_goals dsimp only [arP, arU, arN] at h1 h2 h3
  all_goals first | (obtain ⟨a, b, c, d, rfl⟩ := len4 h1) | (obtain ⟨a, b, c, rfl⟩ := len3 h1) | (obtain ⟨a, b, rfl⟩ := len2 h1) | (obtain rfl := len0 h1)
  all_goals first | (obtain ⟨e, f, rfl⟩ := len2 h2) | (obtain ⟨e, rfl⟩ := len1 h2) | (obtain rfl := len0 h2)
  all_goals first | (obtain ⟨i, j, rfl⟩ := len2 h3) | (obtain rfl := len0 h3)
  all_goals simp [mkP, shp3, placedX, slidX, partX, shiftX, turnX, movedX, overX, mirrorX, secondX, footX, squareX, alongX, difX, meetX, crossX, centreX, P3.at, shp, shp_shp]
def szE (e : Px) : Bool := decide (cnt e < 16777216) && (decide (nb 7 e ≤ 400000) && decide (dg e < radix))
def szOk (p : P3) : Bool := szE p.x && (szE p.y && szE p.w)
theorem szE_shp (e : Px) : szE (shp e) = szE e := by unfold szE; rw [cnt_shp, nb_shp, dg_shp]
theorem szOk_shp (p : P3) : szOk (shp3 p) = szOk p := by unfold szOk shp3; rw [szE_shp, szE_shp, szE_shp]
theorem szE_of {e : Px} (h : szE e = true) : cnt e < sizeLine ∧ nb 7 e ≤ 400000 ∧ dg e < radix := by
  unfold szE at h
  rw [Bool.and_eq_true, Bool.and_eq_true] at h
  exact ⟨by rw [sizeLine_eq]; exact of_decide_eq_true h.1, of_decide_eq_true h.2.1, of_decide_eq_true h.2.2⟩
theorem fine_sz {n : Nat} {p : P3} (q : Q3 n p) (h : szOk p = true) : Fine3 p := by
  unfold szOk at h
  rw [Bool.and_eq_true, Bool.and_eq_true] at h
  have a := szE_of h.1
  have b := szE_of h.2.1
  have c := szE_of h.2.2
  exact ⟨fine_of q.x.1 a.1 a.2.1, fine_of q.y.1 b.1 b.2.1, fine_of q.w.1 c.1 c.2.1⟩
theorem nz_sz {n : Nat} {p : P3} (q : Q3 n p) (h : szOk p = true) {v : Nat → Int} (z : evX v p.w ≠ 0) : NZ p.w := by
  unfold szOk at h
  rw [Bool.and_eq_true, Bool.and_eq_true] at h
  exact nz_point q.w.2 (szE_of h.2.2).2.2 z
/-! ### rows that can be added -/
structure AddGood (c : Cst) (s : Stp) : Prop where
  rt : Right c.names s
  len : c.steps.length < 12
  ul : (c.unk ++ newUnk s).length ≤ 8
  fine : Fine3 (c.mk3 s)
  nz : NZ (c.mk3 s).w
def RowOk : Cst → List Stp → Prop
  | _, [] => True
  | c, s :: ss => AddGood c s ∧ RowOk (c.add s) ss
def Cst.adds (c : Cst) (ss : List Stp) : Cst := ss.foldl Cst.add c
theorem RowOk.app : ∀ {ss : List Stp} {c : Cst} {tt : List Stp}, RowOk c ss → RowOk (c.adds ss) tt → RowOk c (ss ++ tt)
  | [], _, _, _, h => h
  | _ :: _, _, _, h, g => ⟨h.1, RowOk.app h.2 g⟩
theorem RowOk.cok : ∀ {ss : List Stp} {c : Cst}, Cok c → RowOk c ss → Cok (c.adds ss)
  | [], _, h, _ => h
  | s :: ss, c, h, g => RowOk.cok (ss := ss) (c := c.add s) (h.add g.1.rt g.1.len g.1.ul) g.2
/-- names are short -/
def Short (s : Stp) : Prop := s.nm.length ≤ 1000 ∧ ∀ x ∈ s.el, x.length ≤ 1000
theorem Short.pls {H : Hp} {s : Stp} (h : Short s) : Pls H s.vals := fun v m => by
  rcases List.mem_cons.mp m with rfl | m
  · exact .str _ (by cases s.w <;> decide +kernel)
  rcases List.mem_cons.mp m with rfl | m
  · exact .str _ (by have := h.1; omega)
  rcases List.mem_append.mp m with m | m
  · obtain ⟨x, mx, rfl⟩ := List.mem_map.mp m
    exact .str _ (by have := h.2 x mx; omega)
  · obtain ⟨x, mx, rfl⟩ := List.mem_map.mp m
    exact .int _
theorem Stp.Shp.len8 {s : Stp} (h : s.Shp) : s.vals.length < 1000000 := by
  unfold Stp.vals Stp.mem
  rw [List.length_cons, List.length_cons, List.length_append, List.length_map, List.length_map, h.el, h.nu]
  have := ar4 s.w
  have := arN2 s.w
  omega
theorem Right.short {c : Cst} {s : Stp} (ck : Cok c) (r : Right c.names s) : Short s := by
  refine ⟨by have := nm_len r.nm; omega, fun x m => ?_⟩
  have := r.el x m
  rw [ck.nm] at this
  obtain ⟨s2, m2, rfl⟩ := List.mem_map.mp this
  have := nm_len (ck.st s2 m2).2
  omega
section
variable {CS CI CM : Addr} {H : Hp} {E : XK} {c : Cst} {s : Stp} {x : V} {K : Cst → Prop}
theorem AddGood.out (g : AddGood c s) (ck : Cok c) (sq : SeqV H x s.vals) (k : K (c.add s)) : AddOut CS CI CM H E c x K :=
  .inr ⟨s.vals, sq, (g.rt.short ck).pls, g.rt.shp.len8, fun k e => (by rw [g.rt.chk] at e; cases e), fun _ => ⟨s, rfl, g.rt, fun e => (by have := g.len; omega), fun _ e => (by have := g.ul; omega), fun _ _ => ⟨g.fine, .inr ⟨g.nz, k⟩⟩⟩⟩
theorem bad_out (rt : Right c.names s) (ck : Cok c) (l : c.steps.length < 12) (u : (c.unk ++ newUnk s).length ≤ 8) (f : Fine3 (c.mk3 s)) (z : ∀ v, evX v (c.mk3 s).w = 0) (sq : SeqV H x s.vals) (rz : Raises CI "name" (.str s.nm) H E) : AddOut CS CI CM H E c x K :=
  .inr ⟨s.vals, sq, (rt.short ck).pls, rt.shp.len8, fun k e => (by rw [rt.chk] at e; cases e), fun _ => ⟨s, rfl, rt, fun e => (by omega), fun _ e => (by omega), fun _ _ => ⟨f, .inl ⟨z, rz⟩⟩⟩⟩
theorem full_out (rt : Right c.names s) (ck : Cok c) (l : c.steps.length = 12) (sq : SeqV H x s.vals) (rz : Raises CM "word" (.str "points") H E) : AddOut CS CI CM H E c x K :=
  .inr ⟨s.vals, sq, (rt.short ck).pls, rt.shp.len8, fun k e => (by rw [rt.chk] at e; cases e), fun _ => ⟨s, rfl, rt, fun _ => rz, fun h _ => (by omega), fun h _ => (by omega)⟩⟩
theorem chk_taken {names : List Str} (sh : s.Shp) (nm : isNm s.nm = true) (m : s.nm ∈ names) : chkAt names s.vals = some 1 := by
  unfold chkAt
  rw [if_pos sh.formed]
  show (if (isNm s.nm && !decide (s.nm ∈ names)) = true then (match wdOf (wdS s.w) with
      | some wd => (wrongAt names (formT wd).cps.toList s.mem).map (2 + ·)
      | Option.none => some 0) else some 1) = some 1
  rw [nm, decide_eq_true m]
  rfl
theorem taken_out (sh : s.Shp) (nm : isNm s.nm = true) (m : s.nm ∈ c.names) (st : Short s) (sq : SeqV H x s.vals) (rz : Raises CS "at" (.int ((1 : Nat) : Int)) H E) : AddOut CS CI CM H E c x K :=
  .inr ⟨s.vals, sq, st.pls, sh.len8, fun k e => (by rw [chk_taken sh nm m] at e; cases e; exact rz), fun e => (by rw [chk_taken sh nm m] at e; cases e)⟩
end
/-- a list of good steps is built -/
theorem RowOk.out {CS CI CM : Addr} {H : Hp} {E : XK} {K : Cst → Prop} : ∀ {ss : List Stp} {vs us : List V} {c : Cst}, Cok c → RowOk c ss → Paired (fun v (s : Stp) => SeqV H v s.vals) vs ss → BldOut CS CI CM H E K (c.adds ss) us → BldOut CS CI CM H E K c (vs ++ us)
  | _, _, _, _, _, _, .nil, h => h
  | _, _, _, _, ck, r, .cons sq q, h => r.1.out ck sq (RowOk.out (ck.add r.1.rt r.1.len r.1.ul) r.2 q h)
theorem StepAt.seq {H : Hp} {v : V} {s : Stp} (h : StepAt H v s) : SeqV H v s.vals := by
  obtain ⟨a, e, h⟩ := h
  exact ⟨a, e, .inr h⟩
/-! ### what add keeps -/
theorem pt_old {c : Cst} {s : Stp} {x : Str} (h : x ∈ c.names) : (c.add s).pt x = c.pt x := by
  have := pt_some h
  unfold Cst.pt at this ⊢
  show ((c.tri ++ [_]).find? _).map _ = _
  rw [List.find?_append]
  cases q : c.tri.find? fun e => decide (e.1 = x) with
  | none => rw [q] at this; cases this
  | some e => rfl
theorem pt_new {c : Cst} {s : Stp} (h : s.nm ∉ c.names) : (c.add s).pt s.nm = some (c.mk3 s) := by
  have e : (c.tri.find? fun e => decide (e.1 = s.nm)) = none := by
    have : (c.tri.find? fun e => decide (e.1 = s.nm)).isSome = decide (s.nm ∈ c.names) := find_mem
    rw [decide_eq_false h] at this
    cases q : c.tri.find? fun e => decide (e.1 = s.nm) with
    | none => rfl
    | some e => rw [q] at this; cases this
  unfold Cst.pt
  show ((c.tri ++ [(s.nm, c.mk3 s)]).find? _).map _ = _
  rw [List.find?_append, e]
  simp [List.find?_cons]
theorem names_add (c : Cst) (s : Stp) : (c.add s).names = c.names ++ [s.nm] := by
  show (c.tri ++ [(s.nm, c.mk3 s)]).map (·.1) = _
  rw [List.map_append]
  rfl
theorem mk3_congr {s : Stp} {f g : Str → Option P3} {j k : Nat} (h : ∀ x ∈ s.el, f x = g x) (u : arU s.w = 0) : s.mk3 f j = s.mk3 g k := by
  unfold Stp.mk3
  rw [u]
  have : (s.el.map fun x => (f x).getD (placedX (.num 0) (.num 0))) = s.el.map fun x => (g x).getD (placedX (.num 0) (.num 0)) := List.map_congr_left fun x m => by rw [h x m]
  rw [this]
  rfl
theorem new_none {s : Stp} (u : arU s.w = 0) : newUnk s = [] := by
  have := newUnk_len s
  rw [u] at this
  exact List.length_eq_zero_iff.mp this
/-- steps without unknowns, of points that were there at the start -/
structure Moves (names0 : List Str) (pt0 : Str → Option P3) (s : Stp) : Prop where
  shp : s.Shp
  nm : isNm s.nm = true
  el : ∀ x ∈ s.el, x ∈ names0
  nu : ∀ (i : Nat) (k : Int), s.nu[i]? = some k → leastN (if i = 0 then 110 else 100) ≤ k ∧ k ≤ 100
  un : arU s.w = 0
  fine : Fine3 (s.mk3 pt0 0)
  nz : NZ (s.mk3 pt0 0).w
structure After (names0 : List Str) (pt0 : Str → Option P3) (c : Cst) (ss : List Stp) (c2 : Cst) : Prop where
  row : RowOk c ss
  nm : c2.names = c.names ++ ss.map (·.nm)
  old : ∀ x ∈ c.names, c2.pt x = c.pt x
  new : ∀ s ∈ ss, c2.pt s.nm = some (s.mk3 pt0 0)
  un : c2.unk = c.unk
  st : c2.steps = c.steps ++ ss
theorem moves_ok {names0 : List Str} {pt0 : Str → Option P3} : ∀ {ss : List Stp} {c : Cst}, (∀ x ∈ names0, x ∈ c.names) → (∀ x ∈ names0, c.pt x = pt0 x) → (∀ s ∈ ss, Moves names0 pt0 s) → (ss.map (·.nm)).Nodup → (∀ s ∈ ss, s.nm ∉ c.names) → c.steps.length + ss.length ≤ 12 → c.unk.length ≤ 8 → After names0 pt0 c ss (c.adds ss)
  | [], c, _, _, _, _, _, _, _ => ⟨trivial, by simp [Cst.adds], fun _ _ => rfl, fun _ h => (nomatch h), rfl, by simp [Cst.adds]⟩
  | s :: ss, c, hs, hp, hm, nd, nn, l, u => by
    have m := hm s List.mem_cons_self
    have n1 := nn s List.mem_cons_self
    have e : c.mk3 s = s.mk3 pt0 0 := mk3_congr (fun x mx => hp x (m.el x mx)) m.un
    have nu := new_none m.un
    rw [List.length_cons] at l
    have nd2 := List.nodup_cons.mp nd
    have g : AddGood c s := ⟨⟨m.shp, m.nm, n1, fun x mx => hs x (m.el x mx), m.nu⟩, by omega, by rw [nu, List.append_nil]; exact u, by rw [e]; exact m.fine, by rw [e]; exact m.nz⟩
    have ih := moves_ok (names0 := names0) (pt0 := pt0) (ss := ss) (c := c.add s) (fun x mx => by rw [names_add]; exact List.mem_append_left _ (hs x mx)) (fun x mx => by rw [pt_old (hs x mx)]; exact hp x mx) (fun t mt => hm t (List.mem_cons_of_mem _ mt)) nd2.2
      (fun t mt q => by
        rw [names_add] at q
        rcases List.mem_append.mp q with q | q
        · exact nn t (List.mem_cons_of_mem _ mt) q
        · have : t.nm = s.nm := List.mem_singleton.mp q
          exact nd2.1 (List.mem_map.mpr ⟨t, mt, this⟩)) (by show (c.steps ++ [s]).length + _ ≤ _; rw [List.length_append]; show c.steps.length + 1 + ss.length ≤ 12; omega) (by show (c.unk ++ newUnk s).length ≤ 8; rw [nu, List.append_nil]; exact u)
    refine ⟨⟨g, ih.row⟩, ?_, fun x mx => ?_, fun t mt => ?_, ?_, ?_⟩
    · show ((c.add s).adds ss).names = _
      rw [ih.nm, names_add, List.append_assoc]
      rfl
    · show ((c.add s).adds ss).pt x = _
      rw [ih.old x (by rw [names_add]; exact List.mem_append_left _ mx), pt_old mx]
    · show ((c.add s).adds ss).pt t.nm = _
      rcases List.mem_cons.mp mt with rfl | mt
      · rw [ih.old _ (by rw [names_add]; exact List.mem_append_right _ (List.mem_singleton.mpr rfl)), pt_new n1, e]
      · exact ih.new t mt
    · show ((c.add s).adds ss).unk = _
      rw [ih.un]
      show c.unk ++ newUnk s = c.unk
      rw [nu, List.append_nil]
    · show ((c.add s).adds ss).steps = _
      rw [ih.st]
      show (c.steps ++ [s]) ++ ss = c.steps ++ s :: ss
      rw [List.append_assoc]
      rfl
end CN

set_option Elab.async false
set_option linter.all false
set_option maxRecDepth 100000
set_option maxHeartbeats 4000000
set_option autoImplicit false
set_option pp.maxSteps 300
/-! The law's draws out of a list. -/
namespace CN
open PySem L2 K1D K2P
abbrev sDraw : Stmt := K2P.top 63
/-- at p the source, its cells at l -/
def SrcL (H : Hp) (p l : Addr) : Prop := ∃ (a b c : Int) (xs : List Int), H p = some (.lst [.ref l, .int a, .int b, .int c]) ∧ H l = some (.lst (xs.map V.int)) ∧ 0 ≤ c ∧ c < 2147483648 ∧ xs.length ≤ 1000000 ∧ l ≠ p
/-- all but the source stands -/
def Bt (p l : Addr) (H H' : Hp) : Prop := ∀ a o, a ≠ p → a ≠ l → H a = some o → H' a = some o
theorem Bt.refl {p l : Addr} {H : Hp} : Bt p l H H := fun _ _ _ _ e => e
theorem Bt.trans {p l : Addr} {H H' H'' : Hp} (h : Bt p l H H') (h' : Bt p l H' H'') : Bt p l H H'' := fun a o n m e => h' a o n m (h a o n m e)
theorem Bt.same {p l : Addr} {H H' : Hp} (h : Same H H') : Bt p l H H' := fun a o _ _ e => h a o e
theorem Bt.put {p l : Addr} {o : HO} {H : Hp} : Bt p l H (upd H p o) := fun a x n _ e => (upd_ne n).trans e
theorem Bt.put2 {p l : Addr} {o : HO} {H : Hp} : Bt p l H (upd H l o) := fun a x _ n e => (upd_ne n).trans e
theorem Bt.chg {p l : Addr} {H H' : Hp} (h : Bt p l H H') : Chg [p, l] H H' := fun b x e m => h b x (fun z => m (by rw [z]; exact List.mem_cons_self)) (fun z => m (by rw [z]; exact List.mem_cons_of_mem _ List.mem_cons_self)) e
theorem SrcL.same {H G : Hp} {p l : Addr} (h : SrcL H p l) (s : Same H G) : SrcL G p l := by
  obtain ⟨a, b, c, xs, h1, h2, r⟩ := h
  exact ⟨a, b, c, xs, s _ _ h1, s _ _ h2, r⟩
theorem SrcL.set {H : Hp} {p l q : Addr} {o : HO} (h : SrcL H p l) (np : q ≠ p) (nl : q ≠ l) : SrcL (upd H q o) p l := by
  obtain ⟨a, b, c, xs, h1, h2, r⟩ := h
  exact ⟨a, b, c, xs, (upd_ne (Ne.symm np)).trans h1, (upd_ne (Ne.symm nl)).trans h2, r⟩
theorem SrcL.ne {H : Hp} {p l q : Addr} (h : SrcL H p l) (n : H q = none) : q ≠ p ∧ q ≠ l := by
  obtain ⟨a, b, c, xs, h1, h2, r⟩ := h
  exact ⟨fun z => (by rw [z, h1] at n; cases n), fun z => (by rw [z, h2] at n; cases n)⟩
theorem SrcL.new {H : Hp} {p l q : Addr} {o : HO} (h : SrcL H p l) (n : H q = none) : SrcL (upd H q o) p l := h.set (h.ne n).1 (h.ne n).2
theorem Bt.new {p l q : Addr} {o : HO} {H : Hp} (h : H q = none) : Bt p l H (upd H q o) := fun a x _ _ e => (upd_ne (ne_of_none e h)).trans e
theorem Bt.set {p l q : Addr} {o : HO} {H G : Hp} (h : Bt p l H G) (n : H q = none) : Bt p l H (upd G q o) := fun a x m m' e => (upd_ne (ne_of_none e n)).trans (h a x m m' e)
theorem Bt.none {p l q : Addr} {H G : Hp} (h : Bt p l H G) (n : G q = none) (np : q ≠ p) (nl : q ≠ l) : H q = none := by
  cases e : H q with
  | none => rfl
  | some x => rw [h q x np nl e] at n; cases n
theorem SrcL.loose {H : Hp} {p l : Addr} (h : SrcL H p l) : Loose [p, l] H := by
  obtain ⟨a, b, c, xs, h1, h2, r⟩ := h
  intro d m
  rcases List.mem_cons.mp m with rfl | m
  · exact ⟨fun xs q => (by rw [h1] at q; cases q), fun v e ⟨d, T, e1, ⟨h3, _⟩, _⟩ z => (by rw [e1] at z; cases z; rw [h1] at h3; cases h3)⟩
  · obtain rfl := List.mem_singleton.mp m
    exact ⟨fun xs q => (by rw [h2] at q; cases q), fun v e ⟨d, T, e1, ⟨h3, _⟩, _⟩ z => (by rw [e1] at z; cases z; rw [h2] at h3; cases h3)⟩
def spDraw : Sp := fun vs H Q _ => ∃ (p l : Addr) (k : Int), vs = [.ref p, .int k] ∧ SrcL H p l ∧ 0 < k ∧ k ≤ 10 ^ 9 ∧ ∀ (z : Int) (H' : Hp), 0 ≤ z → z < k → SrcL H' p l → Bt p l H H' → Q (.int z) H'
structure DrawTxt (mg : Str → Option Value) : Prop where
  len : mg "len" = none
  int : mg "int" = none
  abs : mg "abs" = none
section
variable {P : Program} {w : World} {K : PySem.W.Frag} {mg : Str → Option Value} {base : Heap}
theorem scDraw : FnScope ["src", "many", "taken", "told"] ["src", "many"] (defScope sDraw) := ⟨rfl, rfl, rfl, by decide +kernel, rfl, by decide +kernel, by decide +kernel⟩
theorem wide9 {c k : Int} (h0 : 0 < k) (h : k ≤ 10 ^ 9) : CDivW c k := by
  refine wide_div h0 (b := 64) ?_ (by decide) (by decide)
  have : (2 : Nat) ^ 64 = 18446744073709551616 := by decide
  omega
theorem ok_draw {f : Addr} {fd : FuncData} (F : Fun K "_law_draw" "_law_draw" sDraw f fd) (T : DrawTxt mg) : FnOk P w K mg base CX0 1 f fd ["src", "many"] spDraw := by
  refine F.ok scDraw (fun vs H Q E h => ?_) (fun cdv A outer s H vs Q E hr h => ?_)
  · obtain ⟨p, l, k, rfl, _⟩ := h
    rfl
  · obtain ⟨p, l, k, rfl, hb, k0, k9, go⟩ := h
    refine ⟨_, (C8.pss_cut (ps_if (PW.pt (pw_and (pt_cmpR op_le (pe_ix ix_list (pv 0) pe_int (fun _ _ => rfl)) pe_int (nomark _)) (pw_and1 (pt_cmpR op_gt (pe_callB call_len_seq (by rfl) T.len PySem.boot_len (pa_cons (pe_ix ix_list (pv 0) pe_int (fun _ _ => rfl)) pa_nil)) pe_int (nomark _))))) (pss_cons (ps_set (i := 2) scDraw.nd rfl (Or.inl rfl) (pe_callB call_abs (by rfl) T.abs (by decide +kernel) (pa_cons (pe_bm PySem.F.plainAttrs_list PySem.F.slot_list_pop PySem.F.type_list_pop mt_popAt (pe_ix ix_list (pv 0) pe_int (fun _ _ => rfl)) (pa_cons pe_int pa_nil)) pa_nil)))
      (pss_cons (ps_asg (pe_op op_mod (pe_callTy call_int1 (by rfl) T.int (by decide +kernel) (pa_cons (pe_op op_add (pe_op op_add (pe_op op_mul (pe_ix ix_list (pv 0) pe_int (fun _ _ => rfl)) pe_int) (pv 2)) pe_int) pa_nil)) pe_int) (pg_sub (pv 0) pe_int set_list))
      (pss_cons (ps_asg (pe_ifExp (pt_cmpR op_eq (pe_op op_mod (pe_callTy call_int1 (by rfl) T.int (by decide +kernel) (pa_cons (pv 2) pa_nil)) pe_int) pe_int (nomark _)) (pe_op op_fdiv (pv 2) pe_int) pe_int) (pg_sub (pv 0) pe_int set_list))
      (pss_one (ps_asg pe_int (pg_sub (pv 0) pe_int set_list)))))) pss_nil) (pss_cons (ps_if (pt_cmpR op_gt (pe_ix ix_list (pv 0) pe_int (fun _ _ => rfl)) pe_int (nomark _)) (pss_cons (ps_set (i := 3) scDraw.nd rfl (Or.inl rfl) (pe_op op_modN (pe_callTy call_int1 (by rfl) T.int (by decide +kernel) (pa_cons (pe_ix ix_list (pv 0) pe_int (fun _ _ => rfl)) pa_nil)) (pv 1)))
      (pss_cons (ps_asg (pe_op op_fdivW (pe_ix ix_list (pv 0) pe_int (fun _ _ => rfl)) (pv 1)) (pg_sub (pv 0) pe_int set_list))
      (pss_cons (ps_asg (pe_op op_add (pe_ix ix_list (pv 0) pe_int (fun _ _ => rfl)) pe_int) (pg_sub (pv 0) pe_int set_list))
      (C8.pss_cut (ps_if (pt_cmpR op_ge (pe_ix ix_list (pv 0) pe_int (fun _ _ => rfl)) pe_int (nomark _)) (pss_one (ps_asg pe_int (pg_sub (pv 0) pe_int set_list))) pss_nil) (pss_one (ps_ret (pv 3))))))) pss_nil)
      (pss_cons (ps_asg (pe_op op_mod (pe_callTy call_int1 (by rfl) T.int (by decide +kernel) (pa_cons (pe_op op_add (pe_op op_mul (pe_ix ix_list (pv 0) pe_int (fun _ _ => rfl)) pe_int) pe_int) pa_nil)) pe_int) (pg_sub (pv 0) pe_int set_list))
      (pss_one (ps_ret (pe_op op_modN (pe_callTy call_int1 (by rfl) T.int (by decide +kernel) (pa_cons (pe_op op_fdiv (pe_ix ix_list (pv 0) pe_int (fun _ _ => rfl)) pe_int) pa_nil)) (pv 1))))))), ?_⟩
    refine ⟨fun σ G => ∃ u, σ = [some (.ref p), some (.int k), u, none] ∧ SrcL G p l ∧ Bt p l H G, ?_, ?_⟩
    · obtain ⟨a, b, c, xs, h1, h2, c0, c1, xl, lp⟩ := hb
      have keep : ∃ u, (start ["src", "many", "taken", "told"] [V.ref p, V.int k] : L2.St) = [some (.ref p), some (.int k), u, none] ∧ SrcL H p l ∧ Bt p l H H := ⟨none, rfl, ⟨a, b, c, xs, h1, h2, c0, c1, xl, lp⟩, Bt.refl⟩
      refine ⟨_, rfl, p, _, _, _, rfl, rfl, SqL.of h1, rfl, _, _, rfl, rfl, _, rfl, ?_⟩
      refine ite2 (fun _ => ?_) (fun _ => keep)
      refine ⟨_, rfl, p, _, _, _, rfl, rfl, SqL.of h1, rfl, l, _, rfl, .inl (SqL.of h2), _, _, rfl, rfl, _, rfl, ?_⟩
      refine ite2 (fun hl => ?_) (fun _ => keep)
      clear keep
      obtain ⟨x, r, rfl⟩ : ∃ x r, xs = x :: r := by
        cases xs with
        | nil =>
          have := of_decide_eq_true hl
          simp at this
        | cons x r => exact ⟨x, r, rfl⟩
      have rl : r.length ≤ 1000000 := by
        rw [List.length_cons] at xl
        omega
      refine ⟨_, rfl, p, _, _, _, rfl, rfl, SqL.of h1, rfl, .inl ⟨rfl, _, SqL.of h2⟩, l, _, 0, 0, .int x, rfl, rfl, h2, by decide, by decide, ?_, rfl, _, rfl, ?_⟩
      · unfold seqIndex?
        rw [List.length_map, List.length_cons]
        simp
      have g1 : upd H l (.lst (((x :: r).map V.int).eraseIdx 0)) p = some (.lst [.ref l, .int a, .int b, .int c]) := (upd_ne (Ne.symm lp)).trans h1
      have g2 : upd H l (.lst (((x :: r).map V.int).eraseIdx 0)) l = some (.lst (r.map V.int)) := upd_same
      have gb : Bt p l H (upd H l (.lst (((x :: r).map V.int).eraseIdx 0))) := Bt.put2
      generalize upd H l (.lst (((x :: r).map V.int).eraseIdx 0)) = G1 at g1 g2 gb ⊢
      generalize (if x < 0 then -x else x) = ax
      refine ⟨_, rfl, p, _, _, _, rfl, rfl, SqL.of g1, rfl, _, _, rfl, rfl, .inr (by decide), _, rfl, _, _, rfl, rfl, _, _, rfl, rfl, .inl ⟨_, rfl, _, _, rfl, rfl, (by show (0 : Int) < 2147483647; decide), ?_⟩⟩
      have m0 := Int.emod_nonneg (c * 69621 + ax + 1) (show (2147483647 : Int) ≠ 0 by decide)
      have m1 := Int.emod_lt_of_pos (c * 69621 + ax + 1) (show (0 : Int) < 2147483647 by decide)
      refine ⟨_, rfl, p, _, _, _, rfl, rfl, g1, rfl, ?_⟩
      refine ⟨_, rfl, .inl ⟨_, rfl, _, _, rfl, rfl, (by show (0 : Int) < 2; decide), rfl, _, rfl, ?_⟩⟩
      refine ite2 (fun _ => ?_) (fun _ => ?_)
      · refine ⟨_, rfl, _, _, rfl, rfl, ⟨by decide, by decide⟩, ?_⟩
        refine ⟨_, rfl, p, _, _, _, rfl, rfl, upd_same, rfl, ?_⟩
        refine ⟨_, rfl, p, _, _, _, rfl, rfl, upd_same, rfl, some (.int ax), rfl, ?_, ?_⟩
        · rw [upd_upd, upd_upd]
          exact ⟨_, _, _, r, upd_same, (upd_ne lp).trans g2, m0, Int.lt_trans m1 (by decide), rl, lp⟩
        · rw [upd_upd, upd_upd]
          exact gb.trans Bt.put
      · refine ⟨_, rfl, p, _, _, _, rfl, rfl, upd_same, rfl, ?_⟩
        refine ⟨_, rfl, p, _, _, _, rfl, rfl, upd_same, rfl, some (.int ax), rfl, ?_, ?_⟩
        · rw [upd_upd, upd_upd]
          exact ⟨_, _, _, r, upd_same, (upd_ne lp).trans g2, m0, Int.lt_trans m1 (by decide), rl, lp⟩
        · rw [upd_upd, upd_upd]
          exact gb.trans Bt.put
    · clear hb
      rintro σ G ⟨u, rfl, ⟨a, b, c, xs, h1, h2, c0, c1, xl, lp⟩, tG⟩
      refine ⟨_, rfl, p, _, _, _, rfl, rfl, SqL.of h1, rfl, _, _, rfl, rfl, _, rfl, ?_⟩
      refine ite2 (fun _ => ?_) (fun _ => ?_)
      · refine ⟨_, rfl, p, _, _, _, rfl, rfl, SqL.of h1, rfl, .inl ⟨_, rfl, _, rfl, _, _, rfl, rfl, Int.ne_of_gt k0, ?_⟩⟩
        refine ⟨_, rfl, p, _, _, _, rfl, rfl, SqL.of h1, rfl, _, rfl, _, _, rfl, rfl, wide9 k0 k9, _, rfl, p, _, _, _, rfl, rfl, h1, rfl, ?_⟩
        refine ⟨_, rfl, p, _, _, _, rfl, rfl, SqL.of upd_same, rfl, _, _, rfl, rfl, _, rfl, p, _, _, _, rfl, rfl, upd_same, rfl, ?_⟩
        rw [upd_upd]
        have i1 : SrcL (upd G p (.lst [.ref l, .int (a / k), .int (b + 1), .int c])) p l := ⟨_, _, _, xs, upd_same, (upd_ne lp).trans h2, c0, c1, xl, lp⟩
        have t1 : Bt p l H (upd G p (.lst [.ref l, .int (a / k), .int (b + 1), .int c])) := tG.trans Bt.put
        have i2 : SrcL (upd (upd G p (.lst [.ref l, .int (a / k), .int (b + 1), .int c])) p (.lst [.ref l, .int 0, .int (b + 1), .int c])) p l := ⟨_, _, _, xs, upd_same, (upd_ne lp).trans ((upd_ne lp).trans h2), c0, c1, xl, lp⟩
        refine ⟨fun σ F => σ = [some (.ref p), some (.int k), u, some (.int (a.fmod k))] ∧ SrcL F p l ∧ Bt p l H F, ?_, ?_⟩
        · refine ⟨_, rfl, p, _, _, _, rfl, rfl, SqL.of upd_same, rfl, _, _, rfl, rfl, _, rfl, ?_⟩
          refine ite2 (fun _ => ⟨_, rfl, p, _, _, _, rfl, rfl, upd_same, rfl, rfl, i2, t1.trans Bt.put⟩) (fun _ => ⟨rfl, i1, t1⟩)
        · rintro σ F ⟨rfl, sF, bF⟩
          exact ⟨_, rfl, go _ _ (Int.fmod_nonneg_of_pos _ k0) (Int.fmod_lt_of_pos _ k0) sF bF⟩
      · refine ⟨_, rfl, p, _, _, _, rfl, rfl, SqL.of h1, rfl, _, _, rfl, rfl, .inr (by decide), _, _, rfl, rfl, .inl ⟨_, rfl, _, _, rfl, rfl, (by show (0 : Int) < 2147483647; decide), ?_⟩⟩
        have m0 := Int.emod_nonneg (c * 48271 + 12345) (show (2147483647 : Int) ≠ 0 by decide)
        have m1 := Int.emod_lt_of_pos (c * 48271 + 12345) (show (0 : Int) < 2147483647 by decide)
        refine ⟨_, rfl, p, _, _, _, rfl, rfl, h1, rfl, ?_⟩
        refine ⟨_, rfl, p, _, _, _, rfl, rfl, SqL.of upd_same, rfl, _, _, rfl, rfl, ⟨by decide, by decide⟩, .inl ⟨_, rfl, _, rfl, _, _, rfl, rfl, Int.ne_of_gt k0, ?_⟩⟩
        exact go _ _ (Int.fmod_nonneg_of_pos _ k0) (Int.fmod_lt_of_pos _ k0) ⟨_, _, _, xs, upd_same, (upd_ne lp).trans h2, m0, Int.lt_trans m1 (by decide), xl, lp⟩ (tG.trans Bt.put)
end
end CN

set_option Elab.async false
set_option linter.all false
set_option maxRecDepth 100000
set_option maxHeartbeats 4000000
set_option autoImplicit false
set_option pp.maxSteps 300
/-! The law's own comparison. -/
namespace CN
open PySem L2 K1D K2P
abbrev sLInt : Stmt := K2P.top 64
abbrev sSame : Stmt := K2P.top 65
inductive Atm : V → Prop
  | str (x : Str) : Atm (.str x)
  | int (i : Int) : Atm (.int i)
def Alk : Nat → Hp → V → V → Prop
  | 0, _, x, y => x = y ∧ Atm x
  | n + 1, H, x, y => (x = y ∧ Atm x) ∨ ∃ (p q : Addr) (us vs : List V), x = .ref p ∧ y = .ref q ∧ H p = some (.tup us) ∧ H q = some (.tup vs) ∧ Paired (Alk n H) us vs ∧ us.length ≤ 100000
theorem Alk.up {H G : Hp} (s : Same H G) : ∀ {n : Nat} {x y : V}, Alk n H x y → Alk n G x y
  | 0, _, _, h => h
  | n + 1, _, _, h => h.elim .inl fun ⟨p, q, us, vs, e1, e2, h1, h2, h3, h4⟩ => .inr ⟨p, q, us, vs, e1, e2, s _ _ h1, s _ _ h2, pair_imp (fun _ _ a => Alk.up s a) h3, h4⟩
def spLInt : Sp := fun vs H Q _ => ∃ i : Int, vs = [.int i] ∧ Q (.bl true) H
def spSame (n : Nat) : Sp := fun vs H Q _ => ∃ x y : V, vs = [x, y] ∧ Alk n H x y ∧ ∀ G, Same H G → Q (.bl true) G
structure SameTxt (K : PySem.W.Frag) (mg : Str → Option Value) (fS : Addr) : Prop where
  isinst : mg "isinstance" = none
  tuple : mg "tuple" = none
  bool : mg "bool" = none
  str : mg "str" = none
  int : mg "int" = none
  len : mg "len" = none
  all : mg "all" = none
  range : mg "range" = none
  gS : mg "_law_same" = some (.ref fS)
  kS : PySem.W.keepIn K (.ref fS) = true
structure HotT (P : Program) (w : World) (K : PySem.W.Frag) (mg : Str → Option Value) (base : Heap) (k : Nat) (x : Str) (ps : List Str) (sp : Sp) (f : Addr) (d : FuncData) : Prop where
  ok : L2H.FnH P w K mg base CX0 k f d ps sp
  b : Binds K d ps []
  g : mg x = some (.ref f)
  k : PySem.W.keepIn K (.ref f) = true
section
variable {P : Program} {w : World} {K : PySem.W.Frag} {mg : Str → Option Value} {base : Heap} {fS fI : Addr} {dI : FuncData}
theorem scLInt : FnScope ["x"] ["x"] (defScope sLInt) := ⟨rfl, rfl, rfl, by decide +kernel, rfl, by decide +kernel, by decide +kernel⟩
theorem scSame : FnScope ["told", "due", "k"] ["told", "due"] (defScope sSame) := ⟨rfl, rfl, rfl, by decide +kernel, rfl, by decide +kernel, by decide +kernel⟩
theorem ok_lint {f : Addr} {fd : FuncData} (F : Fun K "_law_is_int" "_law_is_int" sLInt f fd) (T : SameTxt K mg fS) : FnOk P w K mg base CX0 1 f fd ["x"] spLInt := by
  refine F.ok scLInt (fun vs H Q E h => ?_) (fun cdv A outer s H vs Q E hr h => ?_)
  · obtain ⟨i, rfl, _⟩ := h
    rfl
  · obtain ⟨i, rfl, go⟩ := h
    refine ⟨_, (pss_one (ps_ret (pe_and (pe_callB call_isi (by rfl) T.isinst (by decide +kernel) (pa_cons (pv 0) (pa_cons (pe_bltn (v := .ty "int") (u := .type "int") (by rfl) T.int (by decide +kernel) (by exact rfl)) pa_nil))) (pe_one (pe_not (pe_callB call_isi (by rfl) T.isinst (by decide +kernel) (pa_cons (pv 0) (pa_cons (pe_bltn (v := .ty "bool") (u := .type "bool") (by rfl) T.bool (by decide +kernel) (by exact rfl)) pa_nil)))))))), ?_⟩
    refine isi (K := K) (b := true) rfl (.int i) (by decide +kernel) ⟨true, rfl, ifY rfl ?_⟩
    exact isi (K := K) (b := false) rfl (.int i) (by decide +kernel) ⟨false, rfl, go⟩
theorem ok_lintH {f : Addr} {fd : FuncData} (F : Fun K "_law_is_int" "_law_is_int" sLInt f fd) (T : SameTxt K mg fS) : L2H.FnH P w K mg base CX0 1 f fd ["x"] spLInt := by
  obtain ⟨oc, od, kV, doc, pm, an, cdv, ct, osl, rfl, lk, hcd⟩ := F.ex
  refine L2H.fn_ofH lk hcd scLInt (fun vs H Q E h => ?_) fun A outer s H vs Q E p hot hr h => ?_
  · obtain ⟨i, rfl, _⟩ := h
    rfl
  · obtain ⟨i, rfl, go⟩ := h
    refine ⟨_, (pss_one (ps_ret (pe_and (pe_callB call_isi (by rfl) T.isinst (by decide +kernel) (pa_cons (pv 0) (pa_cons (pe_bltn (v := .ty "int") (u := .type "int") (by rfl) T.int (by decide +kernel) (by exact rfl)) pa_nil))) (pe_one (pe_not (pe_callB call_isi (by rfl) T.isinst (by decide +kernel) (pa_cons (pv 0) (pa_cons (pe_bltn (v := .ty "bool") (u := .type "bool") (by rfl) T.bool (by decide +kernel) (by exact rfl)) pa_nil)))))))), ?_⟩
    refine isi (K := K) (b := true) rfl (.int i) (by decide +kernel) ⟨true, rfl, ifY rfl ?_⟩
    exact isi (K := K) (b := false) rfl (.int i) (by decide +kernel) ⟨false, rfl, go⟩
def sTail (K : PySem.W.Frag) (ti : TE) : TS := tSeq (tIfS (tTest (tOp (fun x y H Q => y = .non ∧ Q (.bl (decide (x = .non))) H) (tVar 1) (tC .non))) (tRet (tOp (fun x y H Q => y = .non ∧ Q (.bl (decide (x = .non))) H) (tVar 0) (tC .non))) tNext) (tSeq (tIfS (tTest (tI K 1 "bool")) (tRet (tAndV (tI K 0 "bool") (tOp rEq (tVar 0) (tVar 1)))) tNext)
  (tSeq (tIfS (tTest (tI K 1 "str")) (tRet (tAndV (tI K 0 "str") (tOp rEq (tVar 0) (tVar 1)))) tNext) (tRet (tAndV ti (tOp rEq (tVar 0) (tVar 1))))))
theorem s_leaf {ti : TE} {H : Hp} {D : Ends} {x : V} {o : Option V} (al : Atm x) (hi : ∀ (i : Int) (R : VK), x = .int i → R (.bl true) H → ti [some x, some x, o] H R) (go : D.rt (.bl true) H) : sTail K ti D [some x, some x, o] H := by
  cases al with
  | str z =>
    refine ⟨_, rfl, rfl, _, rfl, ifN (by simp) ?_⟩
    refine isi (K := K) (b := false) rfl (.str z) (by decide +kernel) ⟨_, rfl, ifN rfl ?_⟩
    refine isi (K := K) (b := true) rfl (.str z) (by decide +kernel) ⟨_, rfl, ifY rfl ?_⟩
    refine isi (K := K) (b := true) rfl (.str z) (by decide +kernel) ⟨true, rfl, ifY rfl ⟨_, rfl, _, rfl, rfl, ?_⟩⟩
    rw [decide_eq_true (rfl : V.str z = V.str z)]
    exact go
  | int z =>
    refine ⟨_, rfl, rfl, _, rfl, ifN (by simp) ?_⟩
    refine isi (K := K) (b := false) rfl (.int z) (by decide +kernel) ⟨_, rfl, ifN rfl ?_⟩
    refine isi (K := K) (b := false) rfl (.int z) (by decide +kernel) ⟨_, rfl, ifN rfl ?_⟩
    refine hi z _ rfl ⟨true, rfl, ifY rfl ⟨_, rfl, _, rfl, rfl, ?_⟩⟩
    rw [decide_eq_true (rfl : V.int z = V.int z)]
    exact go
theorem Atm.noTup {x : V} (al : Atm x) : ∃ a, TyOf K (fun _ => none) x (.type a) ∧ kitB a "tuple" = some false := by
  cases al with
  | str z => exact ⟨_, .str z, by decide +kernel⟩
  | int z => exact ⟨_, .int z, by decide +kernel⟩
theorem Atm.ty {x : V} {H : Hp} (al : Atm x) : ∃ a, TyOf K H x (.type a) ∧ kitB a "tuple" = some false := by
  cases al with
  | str z => exact ⟨_, .str z, by decide +kernel⟩
  | int z => exact ⟨_, .int z, by decide +kernel⟩
theorem ok_same0 {fd : FuncData} (F : Fun K "_law_same" "_law_same" sSame fS fd) (T : SameTxt K mg fS) (UI : CallT P w K mg base CX0 1 "_law_is_int" ["x"] spLInt fI dI) : FnOk P w K mg base CX0 2 fS fd ["told", "due"] (spSame 0) := by
  refine F.ok scSame (fun vs H Q E h => ?_) (fun cdv A outer s H vs Q E hr h => ?_)
  · obtain ⟨x, y, rfl, _⟩ := h
    rfl
  · obtain ⟨x, y, rfl, ⟨rfl, al⟩, go⟩ := h
    refine ⟨_, (pss_cons (ps_if (pt_val (pe_callB call_isi (by rfl) T.isinst (by decide +kernel) (pa_cons (pv 1) (pa_cons (pe_bltn (v := .ty "tuple") (u := .type "tuple") (by rfl) T.tuple (by decide +kernel) (by exact rfl)) pa_nil)))) pss_never pss_nil)
      (pss_cons (ps_if (pt_cmpR op_isN (pv 1) pe_non (nomark _)) (pss_one (ps_ret (pe_cmpR op_isN (pv 0) pe_non (nomark _)))) pss_nil)
      (pss_cons (ps_if (pt_val (pe_callB call_isi (by rfl) T.isinst (by decide +kernel) (pa_cons (pv 1) (pa_cons (pe_bltn (v := .ty "bool") (u := .type "bool") (by rfl) T.bool (by decide +kernel) (by exact rfl)) pa_nil)))) (pss_one (ps_ret (pe_and (pe_callB call_isi (by rfl) T.isinst (by decide +kernel) (pa_cons (pv 0) (pa_cons (pe_bltn (v := .ty "bool") (u := .type "bool") (by rfl) T.bool (by decide +kernel) (by exact rfl)) pa_nil))) (pe_one (pe_cmpR op_eq (pv 0) (pv 1) (nomark _)))))) pss_nil)
      (pss_cons (ps_if (pt_val (pe_callB call_isi (by rfl) T.isinst (by decide +kernel) (pa_cons (pv 1) (pa_cons (pe_bltn (v := .ty "str") (u := .type "str") (by rfl) T.str (by decide +kernel) (by exact rfl)) pa_nil)))) (pss_one (ps_ret (pe_and (pe_callB call_isi (by rfl) T.isinst (by decide +kernel) (pa_cons (pv 0) (pa_cons (pe_bltn (v := .ty "str") (u := .type "str") (by rfl) T.str (by decide +kernel) (by exact rfl)) pa_nil))) (pe_one (pe_cmpR op_eq (pv 0) (pv 1) (nomark _)))))) pss_nil)
      (pss_one (ps_ret (pe_and (pe_call UI.ok (hr.mono (by omega)) rfl UI.g UI.k UI.b .nil pass0 (pa_cons (pv 0) pa_nil)) (pe_one (pe_cmpR op_eq (pv 0) (pv 1) (nomark _)))))))))), ?_⟩
    obtain ⟨a, ty, k1⟩ := al.ty (K := K) (H := H)
    refine isi (K := K) rfl ty k1 ⟨_, rfl, ifN rfl ?_⟩
    show sTail K (tCall spLInt [] E0 (tCons (tVar 0) tNil)) _ _ H
    exact s_leaf al (fun i R e r => by subst e; exact ⟨_, rfl, i, rfl, r⟩) (go H (Same.refl H))
theorem ok_sameH {fd : FuncData} (F : Fun K "_law_same" "_law_same" sSame fS fd) (T : SameTxt K mg fS) (UH : HotT P w K mg base 1 "_law_is_int" ["x"] spLInt fI dI) : L2H.FnH P w K mg base CX0 2 fS fd ["told", "due"] (spSame 0) := by
  obtain ⟨oc, od, kV, doc, pm, an, cdv, ct, osl, rfl, lk, hcd⟩ := F.ex
  refine L2H.fn_ofH lk hcd scSame (fun vs H Q E h => ?_) fun A outer s H vs Q E p hot hr h => ?_
  · obtain ⟨x, y, rfl, _⟩ := h
    rfl
  · obtain ⟨x, y, rfl, ⟨rfl, al⟩, go⟩ := h
    refine ⟨_, (pss_cons (ps_if (pt_val (pe_callB call_isi (by rfl) T.isinst (by decide +kernel) (pa_cons (pv 1) (pa_cons (pe_bltn (v := .ty "tuple") (u := .type "tuple") (by rfl) T.tuple (by decide +kernel) (by exact rfl)) pa_nil)))) pss_never pss_nil)
      (pss_cons (ps_if (pt_cmpR op_isN (pv 1) pe_non (nomark _)) (pss_one (ps_ret (pe_cmpR op_isN (pv 0) pe_non (nomark _)))) pss_nil)
      (pss_cons (ps_if (pt_val (pe_callB call_isi (by rfl) T.isinst (by decide +kernel) (pa_cons (pv 1) (pa_cons (pe_bltn (v := .ty "bool") (u := .type "bool") (by rfl) T.bool (by decide +kernel) (by exact rfl)) pa_nil)))) (pss_one (ps_ret (pe_and (pe_callB call_isi (by rfl) T.isinst (by decide +kernel) (pa_cons (pv 0) (pa_cons (pe_bltn (v := .ty "bool") (u := .type "bool") (by rfl) T.bool (by decide +kernel) (by exact rfl)) pa_nil))) (pe_one (pe_cmpR op_eq (pv 0) (pv 1) (nomark _)))))) pss_nil)
      (pss_cons (ps_if (pt_val (pe_callB call_isi (by rfl) T.isinst (by decide +kernel) (pa_cons (pv 1) (pa_cons (pe_bltn (v := .ty "str") (u := .type "str") (by rfl) T.str (by decide +kernel) (by exact rfl)) pa_nil)))) (pss_one (ps_ret (pe_and (pe_callB call_isi (by rfl) T.isinst (by decide +kernel) (pa_cons (pv 0) (pa_cons (pe_bltn (v := .ty "str") (u := .type "str") (by rfl) T.str (by decide +kernel) (by exact rfl)) pa_nil))) (pe_one (pe_cmpR op_eq (pv 0) (pv 1) (nomark _)))))) pss_nil)
      (pss_one (ps_ret (pe_and (L2H.pe_callH (E := fun _ => E0) UH.ok (hr.mono (by decide)) ⟨p, hot, List.mem_cons_self⟩ rfl UH.g UH.k UH.b (fun _ _ _ _ _ _ _ h => h.elim) (pa_cons (pv 0) pa_nil)) (pe_one (pe_cmpR op_eq (pv 0) (pv 1) (nomark _)))))))))), ?_⟩
    obtain ⟨a, ty, k1⟩ := al.ty (K := K) (H := H)
    refine isi (K := K) rfl ty k1 ⟨_, rfl, ifN rfl ?_⟩
    show sTail K (tCallS spLInt (fun _ => E0) (tCons (tVar 0) tNil)) _ _ H
    exact s_leaf al (fun i R e r => by subst e; exact ⟨_, rfl, i, rfl, r⟩) (go H (Same.refl H))
theorem ok_same {n k : Nat} {fd : FuncData} (F : Fun K "_law_same" "_law_same" sSame fS fd) (bS : Binds K fd ["told", "due"] []) (T : SameTxt K mg fS) (UI : CallT P w K mg base CX0 1 "_law_is_int" ["x"] spLInt fI dI) (k1 : 1 ≤ k) (F0 : FnOk P w K mg base CX0 k fS fd ["told", "due"] (spSame n)) : FnOk P w K mg base CX0 (k + 1) fS fd ["told", "due"] (spSame (n + 1)) := by
  refine F.ok scSame (fun vs H Q E h => ?_) (fun cdv A outer s H vs Q E hr h => ?_)
  · obtain ⟨x, y, rfl, _⟩ := h
    rfl
  · obtain ⟨x, y, rfl, al, go⟩ := h
    refine ⟨_, (pss_cons (ps_if (pt_val (pe_callB call_isi (by rfl) T.isinst (by decide +kernel) (pa_cons (pv 1) (pa_cons (pe_bltn (v := .ty "tuple") (u := .type "tuple") (by rfl) T.tuple (by decide +kernel) (by exact rfl)) pa_nil)))) (pss_cons (ps_if (PW.pt (pw_or (pt_not (pt_val (pe_callB call_isi (by rfl) T.isinst (by decide +kernel) (pa_cons (pv 0) (pa_cons (pe_bltn (v := .ty "tuple") (u := .type "tuple") (by rfl) T.tuple (by decide +kernel) (by exact rfl)) pa_nil))))) (pw_or1 (pt_cmpR op_ne (pe_callB call_len_seq (by rfl) T.len PySem.boot_len (pa_cons (pv 0) pa_nil)) (pe_callB call_len_seq (by rfl) T.len PySem.boot_len (pa_cons (pv 1) pa_nil)) (nomark _))))) (pss_one (ps_ret pe_bl)) pss_nil)
      (pss_one (ps_ret (pe_callB (cr_all rfl) (by rfl) T.all (by decide +kernel) (pa_cons (pe_lc (own := [("k", 2)]) (g := (gName 2)) (tt := tYes) (te := (tCall (spSame n) [] E0 (tCons (tOp (rIxT K) (tVar 0) (tVar 2)) (tCons (tOp (rIxT K) (tVar 1) (tVar 2)) tNil)))) rfl scSame.nd (pi_range1 (by rfl) T.range (pa_cons (pe_callB call_len_seq (by rfl) T.len PySem.boot_len (pa_cons (pv 1) pa_nil)) pa_nil)) (blkOk_by (own := [("k", 2)]) (N := ["told", "due", "k"]) (sc := defScope sSame) (by decide +kernel)) (fun _ _ _ _ _ => (pg_name (i := 2) scSame.nd rfl (Or.inl rfl))) (fun _ _ _ _ _ => pts_nil) (fun _ _ _ _ _ => (pe_call F0 (hr.mono (by omega)) rfl T.gS T.kS bS .nil pass0 (pa_cons (pe_ix ix_tup (pv 0) (pv 2) (fun _ _ => rfl)) (pa_cons (pe_ix ix_tup (pv 1) (pv 2) (fun _ _ => rfl)) pa_nil))))) pa_nil))))) pss_nil)
      (pss_cons (ps_if (pt_cmpR op_isN (pv 1) pe_non (nomark _)) (pss_one (ps_ret (pe_cmpR op_isN (pv 0) pe_non (nomark _)))) pss_nil)
      (pss_cons (ps_if (pt_val (pe_callB call_isi (by rfl) T.isinst (by decide +kernel) (pa_cons (pv 1) (pa_cons (pe_bltn (v := .ty "bool") (u := .type "bool") (by rfl) T.bool (by decide +kernel) (by exact rfl)) pa_nil)))) (pss_one (ps_ret (pe_and (pe_callB call_isi (by rfl) T.isinst (by decide +kernel) (pa_cons (pv 0) (pa_cons (pe_bltn (v := .ty "bool") (u := .type "bool") (by rfl) T.bool (by decide +kernel) (by exact rfl)) pa_nil))) (pe_one (pe_cmpR op_eq (pv 0) (pv 1) (nomark _)))))) pss_nil)
      (pss_cons (ps_if (pt_val (pe_callB call_isi (by rfl) T.isinst (by decide +kernel) (pa_cons (pv 1) (pa_cons (pe_bltn (v := .ty "str") (u := .type "str") (by rfl) T.str (by decide +kernel) (by exact rfl)) pa_nil)))) (pss_one (ps_ret (pe_and (pe_callB call_isi (by rfl) T.isinst (by decide +kernel) (pa_cons (pv 0) (pa_cons (pe_bltn (v := .ty "str") (u := .type "str") (by rfl) T.str (by decide +kernel) (by exact rfl)) pa_nil))) (pe_one (pe_cmpR op_eq (pv 0) (pv 1) (nomark _)))))) pss_nil)
      (pss_one (ps_ret (pe_and (pe_call UI.ok (hr.mono (by omega)) rfl UI.g UI.k UI.b .nil pass0 (pa_cons (pv 0) pa_nil)) (pe_one (pe_cmpR op_eq (pv 0) (pv 1) (nomark _)))))))))), ?_⟩
    rcases al with ⟨rfl, al⟩ | ⟨p, q, us, vs, rfl, rfl, hp, hq, pr, lu⟩
    · obtain ⟨a, ty, k1⟩ := al.ty (K := K) (H := H)
      refine isi (K := K) rfl ty k1 ⟨_, rfl, ifN rfl ?_⟩
      show sTail K (tCall spLInt [] E0 (tCons (tVar 0) tNil)) _ _ H
      exact s_leaf al (fun i R e r => by subst e; exact ⟨_, rfl, i, rfl, r⟩) (go H (Same.refl H))
    · refine isi (K := K) (b := true) rfl (.tup hq) (by decide +kernel) ⟨_, rfl, ifY rfl ?_⟩
      refine isi (K := K) (b := true) rfl (.tup hp) (by decide +kernel) ⟨_, rfl, ifN rfl ?_⟩
      have ll := Paired.length pr
      refine ⟨_, rfl, p, us, rfl, .inr (SqT.of hp), _, rfl, q, vs, rfl, .inr (SqT.of hq), rfl, _, rfl, ifN (by rw [ll]; simp) ?_⟩
      refine ⟨_, rfl, q, vs, rfl, .inr (SqT.of hq), (vs.length : Int), rfl, by omega, by omega, fun D nD => ?_⟩
      refine lc_it (walk_range (lo := 0) (n := vs.length)) (fun (i : Nat) (G : Hp) => Same H G ∧ G D = some (.lst ((List.replicate i true).map V.bl))) ⟨same_new nD, upd_same⟩ (fun _ _ _ _ => trivial) (fun i x G G' hi ⟨sG, hD⟩ ⟨e1, ev⟩ => ?_) (fun G ⟨sG, hD⟩ => ?_)
      · subst e1 ev
        have iu : i < us.length := by omega
        have fx := pair_get pr (List.getElem?_eq_getElem iu) (List.getElem?_eq_getElem hi)
        refine ⟨rfl, _, rfl, _, rfl, p, us, _, us[i], rfl, rfl, SqT.of (sG _ _ hp), at_of (Int.zero_add _) (List.getElem?_eq_getElem iu), _, rfl, _, rfl, q, vs, _, vs[i], rfl, rfl, SqT.of (sG _ _ hq), at_of (Int.zero_add _) (List.getElem?_eq_getElem hi), ?_⟩
        refine ⟨_, _, rfl, fx.up sG, fun G2 s2 => ⟨_, s2 _ _ hD, by rw [List.length_map, List.length_replicate, sizeLine_eq]; omega, fun b o e => (upd_ne (ne_of_none e nD)).trans (s2 _ _ (sG _ _ e)), ?_⟩⟩
        rw [upd_same, List.replicate_succ', List.map_append]
        rfl
      · refine ⟨D, _, rfl, SqL.of hD, ?_⟩
        have : (List.replicate vs.length true).all id = true := by simp
        rw [this]
        exact go G sG
end
end CN

set_option Elab.async false
set_option linter.all false
set_option maxRecDepth 100000
set_option maxHeartbeats 4000000
set_option autoImplicit false
set_option pp.maxSteps 300
/-! The law's unknowns of a plan; its names. -/
namespace CN
open PySem L2 K1D K2P
open K4 (isNm)
abbrev sOpen : Stmt := K2P.top 66
abbrev sNames : Stmt := K2P.top 67
def spOpen : Sp := fun vs H Q _ => ∃ (a : Addr) (svs : List V) (ss : List Stp), vs = [.ref a] ∧ H a = some (.lst svs) ∧ Paired (StepAt H) svs ss ∧ (∀ s ∈ ss, s.nm.length ≤ 1000) ∧ ss.length ≤ 100 ∧
  ∀ (D : Addr) (G : Hp), Same H G → G D = some (.lst ((ss.flatMap newUnk).map V.str)) → Q (.ref D) G
def tails : List Str := ["", "", "a", "zz", "abc"]
def nmK (b : Nat) (t : Str) (k : Nat) : Str := (⟨#[97 + (b + 5 * k) % 26]⟩ : Str) ++ (if k % 2 = 0 then t else "")
def nmL (b : Nat) (t : Str) : List Str := (List.range 12).map (nmK b t)
def spNames : Sp := fun vs H Q _ => ∃ (p l : Addr), vs = [.ref p] ∧ SrcL H p l ∧ ∀ (D : Addr) (b : Nat) (t : Str) (G : Hp), b < 26 → t ∈ tails → SrcL G p l → Bt p l H G → H D = none → G D = some (.lst ((nmL b t).map V.str)) → Q (.ref D) G
structure ListTxt (mg : Str → Option Value) : Prop where
  int : mg "int" = none
  range : mg "range" = none
  len : mg "len" = none
  list : mg "list" = none
  tuple : mg "tuple" = none
section
variable {P : Program} {w : World} {K : PySem.W.Frag} {mg : Str → Option Value} {base : Heap} {fD : Addr} {dD : FuncData}
theorem scOpen : FnScope ["plan", "found", "step"] ["plan"] (defScope sOpen) := ⟨rfl, rfl, rfl, by decide +kernel, rfl, by decide +kernel, by decide +kernel⟩
theorem scNames : FnScope ["src", "letters", "begin", "tail", "found", "k", "own"] ["src"] (defScope sNames) := ⟨rfl, rfl, rfl, by decide +kernel, rfl, by decide +kernel, by decide +kernel⟩
theorem unk_x (nm : Str) : ("x_" : Str) ++ nm = unkN nm 120 := congrArg (· ++ nm) (show ("x_" : Str) = (Str.empty ++ ⟨#[120]⟩) ++ "_" by decide +kernel)
theorem unk_y (nm : Str) : ("y_" : Str) ++ nm = unkN nm 121 := congrArg (· ++ nm) (show ("y_" : Str) = (Str.empty ++ ⟨#[121]⟩) ++ "_" by decide +kernel)
theorem unk_t (nm : Str) : ("t_" : Str) ++ nm = unkN nm 116 := congrArg (· ++ nm) (show ("t_" : Str) = (Str.empty ++ ⟨#[116]⟩) ++ "_" by decide +kernel)
theorem new_free {s : Stp} (h : s.w = .free) : newUnk s = ["x_" ++ s.nm, "y_" ++ s.nm] := by
  unfold newUnk
  rw [h, unk_x, unk_y]
  rfl
theorem new_slide {s : Stp} (h : s.w = .slide) : newUnk s = ["t_" ++ s.nm] := by
  unfold newUnk
  rw [h, unk_t]
  rfl
theorem new_else {s : Stp} (h : s.w ≠ .free) (h2 : s.w ≠ .slide) : newUnk s = [] := by
  have : unkT s.w = "" := by
    revert h h2
    cases s.w <;> simp [unkT]
  unfold newUnk
  rw [this]
  rfl
theorem wd_free {d : Wd} : (V.str (wdS d) = V.str "free") ↔ d = .free := by cases d <;> decide +kernel
theorem wd_slide {d : Wd} : (V.str (wdS d) = V.str "slide") ↔ d = .slide := by cases d <;> decide +kernel
theorem ok_open {f : Addr} {fd : FuncData} (F : Fun K "_law_open" "_law_open" sOpen f fd) : FnOk P w K mg base CX0 1 f fd ["plan"] spOpen := by
  refine F.ok scOpen (fun vs H Q E h => ?_) (fun cdv A outer s H vs Q E hr h => ?_)
  · obtain ⟨a, svs, ss, rfl, _⟩ := h
    rfl
  · obtain ⟨a, svs, ss, rfl, ha, hsp, hl, l100, go⟩ := h
    refine ⟨_, (pss_cons (ps_set (i := 1) scOpen.nd rfl (Or.inl rfl) (pe_lst pa_nil))
      (pss_cons (ps_for PassesOwn.never rfl (pi_list (pv 0)) (pg_name (i := 2) scOpen.nd rfl (Or.inl rfl)) (pss_cons (ps_if (pt_cmpR op_eq (pe_ix ix_tup (pv 2) pe_int (fun _ _ => rfl)) pe_str (nomark _)) (pss_one (ps_set (i := 1) scOpen.nd rfl (Or.inl rfl) (pe_op op_cat (pv 1) (pe_lst (pa_cons (pe_op op_add_str pe_str (pe_ix ix_tup (pv 2) pe_int (fun _ _ => rfl))) (pa_cons (pe_op op_add_str pe_str (pe_ix ix_tup (pv 2) pe_int (fun _ _ => rfl))) pa_nil)))))) pss_nil)
      (pss_one (ps_if (pt_cmpR op_eq (pe_ix ix_tup (pv 2) pe_int (fun _ _ => rfl)) pe_str (nomark _)) (pss_one (ps_expr (pe_bm PySem.F.plainAttrs_list PySem.F.slot_list_append PySem.F.type_list_append mt_append (pv 1) (pa_cons (pe_op op_add_str pe_str (pe_ix ix_tup (pv 2) pe_int (fun _ _ => rfl))) pa_nil)))) pss_nil))))
      (pss_one (ps_ret (pv 1))))), ?_⟩
    have sl : (sizeLine : Nat) = 16777216 := sizeLine_eq
    refine ⟨by show 0 ≤ sizeLine; decide, fun D nD => ?_⟩
    have s0 := same_new (o := .lst []) nD
    have h0 : upd H D (.lst []) D = some (.lst []) := upd_same
    generalize upd H D (.lst []) = G0 at s0 h0 ⊢
    refine ⟨_, rfl, a, rfl, ⟨_, SqL.of (s0 _ _ ha)⟩, ?_⟩
    refine for_it (walk_list (K := K) (a := a) (xs := svs)) (fun i σ G => ∃ (D : Addr) (u : Option V), σ = [some (.ref a), some (.ref D), u] ∧ Same H G ∧ H D = none ∧ G D = some (.lst (((ss.take i).flatMap newUnk).map V.str)))
      ⟨D, _, rfl, s0, nD, h0⟩ (fun i σ G hi ⟨D, u, hσ, sG, _⟩ => SqL.of (sG _ _ ha)) (fun i y σ G G' hi ⟨D, u, hσ, sG, nD, hD⟩ ⟨e, hy⟩ => ?_) (fun σ G ⟨D, u, hσ, sG, nD, hD⟩ => ?_)
    · subst hσ e
      have hy : svs[i]? = some y := hy
      have li : i < ss.length := by rw [← Paired.length hsp]; exact hi
      have hs := List.getElem?_eq_getElem li
      have ln := hl _ (List.getElem_mem li)
      obtain ⟨t, rfl, ht⟩ := pair_get hsp hy hs
      rw [K2P.take_snoc hs, List.flatMap_append]
      generalize ss[i] = st at ln ht
      have fm : [st].flatMap newUnk = newUnk st := by simp
      rw [fm]
      have fl : ∀ l : List Stp, (l.flatMap newUnk).length ≤ 2 * l.length := fun l => by
        induction l with
        | nil => exact Nat.le_refl _
        | cons x l ih =>
          rw [List.flatMap_cons, List.length_append, newUnk_len, List.length_cons]
          have := ar2 x.w
          omega
      have fl1 := fl (ss.take i)
      rw [List.length_take] at fl1
      have ht' := sG _ _ ht
      refine ⟨_, rfl, t, st.vals, _, _, rfl, rfl, SqT.of ht', (show atI _ ((0 : Nat) : Int) = some (V.str (wdS st.w)) from atI_nat rfl), rfl, _, rfl, ?_⟩
      by_cases hf : st.w = .free
      · refine ifY (decide_eq_true (wd_free.mpr hf)) ?_
        have e1 : ("x_" : Str).length = 2 := by decide +kernel
        have e2 : ("y_" : Str).length = 2 := by decide +kernel
        refine ⟨_, rfl, _, rfl, t, st.vals, _, _, rfl, rfl, SqT.of ht', (show atI _ ((1 : Nat) : Int) = some (V.str st.nm) from atI_nat rfl), _, _, rfl, rfl, by rw [e1, sl]; omega, _, rfl, t, st.vals, _, _, rfl, rfl, SqT.of ht', (show atI _ ((1 : Nat) : Int) = some (V.str st.nm) from atI_nat rfl), _, _, rfl, rfl, by rw [e2, sl]; omega, by show 2 ≤ sizeLine; decide, fun L nL => ?_⟩
        have hD1 := same_new (o := .lst [.str ("x_" ++ st.nm), .str ("y_" ++ st.nm)]) nL _ _ hD
        refine ⟨D, L, _, _, rfl, rfl, hD1, upd_same, by rw [List.length_map, sl]; show _ + 2 ≤ _; omega, fun D2 nD2 => ?_⟩
        have s2 := (sG.trans (same_new (o := .lst [.str ("x_" ++ st.nm), .str ("y_" ++ st.nm)]) nL))
        have nD2H : H D2 = none := by
          cases q : H D2 with
          | none => rfl
          | some x => rw [s2 _ _ q] at nD2; cases nD2
        have s3 := s2.trans (same_new (o := .lst (((ss.take i).flatMap newUnk).map V.str ++ [.str ("x_" ++ st.nm), .str ("y_" ++ st.nm)])) nD2)
        refine ⟨_, rfl, t, st.vals, _, _, rfl, rfl, SqT.of (s3 _ _ ht), (show atI _ ((0 : Nat) : Int) = some (V.str (wdS st.w)) from atI_nat rfl), rfl, _, rfl, ifN (decide_eq_false (fun z => by rw [wd_slide, hf] at z; cases z)) ?_⟩
        refine ⟨D2, _, rfl, s3, nD2H, ?_⟩
        rw [upd_same, List.map_append, new_free hf]
        rfl
      · refine ifN (decide_eq_false (fun z => hf (wd_free.mp z))) ?_
        refine ⟨_, rfl, t, st.vals, _, _, rfl, rfl, SqT.of ht', (show atI _ ((0 : Nat) : Int) = some (V.str (wdS st.w)) from atI_nat rfl), rfl, _, rfl, ?_⟩
        by_cases hs : st.w = .slide
        · refine ifY (decide_eq_true (wd_slide.mpr hs)) ?_
          have e1 : ("t_" : Str).length = 2 := by decide +kernel
          refine ⟨_, rfl, .inl ⟨rfl, _, SqL.of hD⟩, _, rfl, t, st.vals, _, _, rfl, rfl, SqT.of ht', (show atI _ ((1 : Nat) : Int) = some (V.str st.nm) from atI_nat rfl), _, _, rfl, rfl, by rw [e1, sl]; omega, D, _, _, rfl, rfl, hD, by rw [List.length_map, sl]; omega, ?_⟩
          refine ⟨D, _, rfl, fun b o q => (upd_ne (ne_of_none q nD)).trans (sG _ _ q), nD, ?_⟩
          rw [upd_same, List.map_append, new_slide hs]
          rfl
        · refine ifN (decide_eq_false (fun z => hs (wd_slide.mp z))) ?_
          refine ⟨D, _, rfl, sG, nD, ?_⟩
          rw [new_else hf hs, List.append_nil]
          exact hD
    · subst hσ
      rw [Paired.length hsp, List.take_length] at hD
      exact ⟨_, rfl, go D G sG hD⟩
theorem letter_at : ∀ j, j < 26 → (("abcdefghijklmnopqrstuvwxyz" : Str).cps.toList)[j]? = some (97 + j) := by decide +kernel
theorem ok_names {f : Addr} {fd : FuncData} (F : Fun K "_law_names" "_law_names" sNames f fd) (T : ListTxt mg) (UD : CallT P w K mg base CX0 1 "_law_draw" ["src", "many"] spDraw fD dD) : FnOk P w K mg base CX0 2 f fd ["src"] spNames := by
  refine F.ok scNames (fun vs H Q E h => ?_) (fun cdv A outer s H vs Q E hr h => ?_)
  · obtain ⟨p, l, rfl, _⟩ := h
    rfl
  · obtain ⟨p, l, rfl, src, go⟩ := h
    refine ⟨_, (pss_cons (ps_set (i := 1) scNames.nd rfl (Or.inl rfl) pe_str)
      (pss_cons (ps_set (i := 2) scNames.nd rfl (Or.inl rfl) (pe_call UD.ok (hr.mono (by decide)) rfl UD.g UD.k UD.b .nil pass0 (pa_cons (pv 0) (pa_cons pe_int pa_nil))))
      (pss_cons (ps_set (i := 3) scNames.nd rfl (Or.inl rfl) (pe_ix ix_list (pe_lst (pa_cons pe_str (pa_cons pe_str (pa_cons pe_str (pa_cons pe_str (pa_cons pe_str pa_nil)))))) (pe_call UD.ok (hr.mono (by decide)) rfl UD.g UD.k UD.b .nil pass0 (pa_cons (pv 0) (pa_cons pe_int pa_nil))) (fun _ _ => rfl)))
      (pss_cons (ps_set (i := 4) scNames.nd rfl (Or.inl rfl) (pe_lst pa_nil))
      (pss_cons (ps_for PassesOwn.never rfl (pi_range1 (by rfl) T.range (pa_cons pe_int pa_nil)) (pg_name (i := 5) scNames.nd rfl (Or.inl rfl)) (pss_cons (ps_set (i := 6) scNames.nd rfl (Or.inl rfl) (pe_ifExp (pt_cmpR op_eq (pe_op op_mod (pe_callTy call_int1 (by rfl) T.int (by decide +kernel) (pa_cons (pv 5) pa_nil)) pe_int) pe_int (nomark _)) (pv 3) pe_str))
      (pss_one (ps_expr (pe_bm PySem.F.plainAttrs_list PySem.F.slot_list_append PySem.F.type_list_append mt_append (pv 4) (pa_cons (pe_op op_add_str (pe_ix ix_str (pv 1) (pe_op op_mod (pe_callTy call_int1 (by rfl) T.int (by decide +kernel) (pa_cons (pe_op op_add (pv 2) (pe_op op_mul pe_int (pv 5))) pa_nil)) pe_int) (fun _ _ => rfl)) (pv 6)) pa_nil))))))
      (pss_one (ps_ret (pv 4)))))))), ?_⟩
    refine ⟨_, rfl, p, l, 26, rfl, src, by decide, by decide, fun b0 G bn bl src1 t1 => ?_⟩
    obtain ⟨b, rfl⟩ : ∃ b : Nat, b0 = b := ⟨b0.toNat, by omega⟩
    have b26 : b < 26 := by omega
    refine ⟨by show 5 ≤ sizeLine; decide, fun L nL => ?_⟩
    have nL1 := src1.ne nL
    refine ⟨_, rfl, p, l, 5, rfl, src1.new nL, by decide, by decide, fun j0 G2 jn jl src2 t2 => ?_⟩
    obtain ⟨j, rfl⟩ : ∃ j : Nat, j0 = j := ⟨j0.toNat, by omega⟩
    have j5 : j < 5 := by omega
    have hL : G2 L = some (.lst (tails.map V.str)) := t2 L _ nL1.1 nL1.2 upd_same
    have jt : j < tails.length := j5
    obtain ⟨t, ht⟩ : ∃ t, tails[j]? = some t := ⟨_, List.getElem?_eq_getElem jt⟩
    have tm := List.mem_of_getElem? ht
    have tB : Bt p l H G2 := fun a o n m e => t2 a o n m (same_new nL _ _ (t1 a o n m e))
    refine ⟨L, _, _, .str t, rfl, rfl, SqL.of hL, atI_nat (by rw [List.getElem?_map, ht]; rfl), ?_⟩
    refine ⟨by show 0 ≤ sizeLine; decide, fun D nD => ?_⟩
    have nD2 := src2.ne nD
    have nDH := tB.none nD nD2.1 nD2.2
    have s3 : SrcL (upd G2 D (.lst [])) p l := src2.new nD
    have b3 : Bt p l H (upd G2 D (.lst [])) := tB.set nDH
    have h3 : upd G2 D (.lst []) D = some (.lst []) := upd_same
    generalize upd G2 D (.lst []) = G3 at s3 b3 h3 ⊢
    have tl4 : t.length ≤ 4 := by
      have : ∀ t ∈ tails, t.length ≤ 4 := by decide +kernel
      exact this t tm
    refine ⟨12, rfl, by decide, by decide, for_range (lo := 0) (n := 12) (fun i σ G => ∃ u u2 : Option V, σ = [some (.ref p), some (.str "abcdefghijklmnopqrstuvwxyz"), some (.int (b : Int)), some (.str t), some (.ref D), u, u2] ∧ SrcL G p l ∧ Bt p l H G ∧ G D = some (.lst (((List.range i).map (nmK b t)).map V.str)))
      ⟨_, _, rfl, s3, b3, h3⟩ (fun i σ G hi ⟨u, u2, hσ, sG, bG, hD⟩ => ?_) (fun σ G ⟨u, u2, hσ, sG, bG, hD⟩ => ?_)⟩
    · subst hσ
      have z0 : ((0 : Int) + (i : Int)) = (i : Int) := by omega
      show (gName 5 (.int (0 + (i : Int))) _ G _)
      rw [z0]
      have e5 : ((5 : Int) * (i : Int)) = ((5 * i : Nat) : Int) := by omega
      have eb : ((b : Int) + ((5 * i : Nat) : Int)) = ((b + 5 * i : Nat) : Int) := by omega
      have em : (((b + 5 * i : Nat) : Int) % 26) = (((b + 5 * i) % 26 : Nat) : Int) := by omega
      have cond : (decide (V.int ((i : Int) % 2) = V.int 0)) = decide (i % 2 = 0) := decide_eq_decide.mpr ⟨fun z => by have := V.int.inj z; omega, fun z => congrArg V.int (by omega)⟩
      have own : ∀ R : VK, R (.str (if i % 2 = 0 then t else "")) G → (tIf (tTest (tOp rEq (tOp (rI (fun _ j => 0 < j) fun i j => .int (i % j)) (tCB (fun xs H Q => (∃ i, xs = [V.int i] ∧ Q (V.int i) H) ∨ ∃ k, xs = [V.bl k] ∧ Q (V.int (if k = true then 1 else 0)) H) (tCons (tVar 5) tNil)) (tC (.int 2))) (tC (.int 0)))) (tVar 3) (tC (.str ""))) [some (.ref p), some (.str "abcdefghijklmnopqrstuvwxyz"), some (.int (b : Int)), some (.str t), some (.ref D), some (.int (i : Int)), u2] G R := fun R q => by
        refine ⟨_, rfl, .inl ⟨_, rfl, _, _, rfl, rfl, (by show (0 : Int) < 2; decide), rfl, _, rfl, ?_⟩⟩
        show (if decide (V.int ((i : Int) % 2) = V.int 0) = true then _ else _)
        rw [cond]
        by_cases hi2 : i % 2 = 0
        · rw [if_pos hi2] at q
          exact ifY (decide_eq_true hi2) ⟨_, rfl, q⟩
        · rw [if_neg hi2] at q
          exact ifN (decide_eq_false hi2) q
      refine own _ ?_
      have lt26 : (b + 5 * i) % 26 < 26 := Nat.mod_lt _ (by decide)
      have at_ : atI ("abcdefghijklmnopqrstuvwxyz" : Str).cps.toList (((b : Int) + 5 * (i : Int)) % 26) = some (97 + (b + 5 * i) % 26) := by
        rw [e5, eb, em]
        exact atI_nat (letter_at _ lt26)
      have ol : (if i % 2 = 0 then t else ("" : Str)).length ≤ 4 := by
        split
        · exact tl4
        · decide +kernel
      refine ⟨_, rfl, .inl ⟨rfl, _, SqL.of hD⟩, _, rfl, _, rfl, _, rfl, _, _, rfl, rfl, .inl ⟨by decide, by decide⟩, _, _, rfl, rfl, .inl ⟨_, rfl, _, _, rfl, rfl, (by show (0 : Int) < 26; decide), ?_⟩⟩
      refine ⟨_, _, _, rfl, rfl, by rw [sizeLine_eq]; decide +kernel, at_, _, rfl, _, _, rfl, rfl, ?_, ?_⟩
      · rw [sizeLine_eq]
        show 1 + (if i % 2 = 0 then t else ("" : Str)).length ≤ _
        omega
      refine ⟨D, _, _, rfl, rfl, hD, by rw [List.length_map, List.length_map, List.length_range, sizeLine_eq]; omega, ?_⟩
      refine ⟨_, _, rfl, sG.set nD2.1 nD2.2, bG.set nDH, ?_⟩
      rw [upd_same, List.range_succ, List.map_append, List.map_append]
      rfl
    · subst hσ
      exact ⟨_, rfl, go D b t G b26 tm sG bG nDH hD⟩
end
end CN

set_option Elab.async false
set_option linter.all false
set_option maxRecDepth 100000
set_option maxHeartbeats 4000000
set_option autoImplicit false
set_option pp.maxSteps 300
/-! Whether a construction is just what was planned. -/
namespace CN
open PySem L2 K1D K2P
open K4 (isNm)
abbrev sKept : Stmt := K2P.top 69
theorem atm_vals (s : Stp) : ∀ v ∈ s.vals, Atm v := fun v h => by
  rcases List.mem_cons.mp h with rfl | h
  · exact .str _
  rcases List.mem_cons.mp h with rfl | h
  · exact .str _
  rcases List.mem_append.mp h with h | h
  · obtain ⟨x, _, rfl⟩ := List.mem_map.mp h
    exact .str _
  · obtain ⟨x, _, rfl⟩ := List.mem_map.mp h
    exact .int _
theorem alk_self {H : Hp} : ∀ {us : List V}, (∀ v ∈ us, Atm v) → Paired (Alk 0 H) us us
  | [], _ => .nil
  | u :: us, h => .cons ⟨rfl, h u List.mem_cons_self⟩ (alk_self fun v m => h v (List.mem_cons_of_mem _ m))
theorem Stp.Shp.len {s : Stp} (h : s.Shp) : s.vals.length ≤ 8 := by
  unfold Stp.vals Stp.mem
  rw [List.length_cons, List.length_cons, List.length_append, List.length_map, List.length_map, h.el, h.nu]
  have := ar4 s.w
  have := arN2 s.w
  omega
theorem alk_step {H : Hp} {x y : V} {s : Stp} (hx : StepAt H x s) (hy : StepAt H y s) (sh : s.Shp) : Alk 1 H x y := by
  obtain ⟨p, rfl, hp⟩ := hx
  obtain ⟨q, rfl, hq⟩ := hy
  exact .inr ⟨p, q, _, _, rfl, rfl, hp, hq, alk_self (atm_vals s), by have := sh.len; omega⟩
theorem alk_steps {H : Hp} : ∀ {us vs : List V} {ss : List Stp}, Paired (StepAt H) us ss → Paired (StepAt H) vs ss → (∀ s ∈ ss, s.Shp) → Paired (Alk 1 H) us vs
  | _, _, _, .nil, .nil, _ => .nil
  | _, _, _, .cons a r, .cons b q, h => .cons (alk_step a b (h _ List.mem_cons_self)) (alk_steps r q fun s m => h s (List.mem_cons_of_mem _ m))
theorem alk_strs {H : Hp} (l : List Str) : Paired (Alk 1 H) (l.map V.str) (l.map V.str) := by
  induction l with
  | nil => exact .nil
  | cons x l ih => exact .cons (.inl ⟨rfl, .str x⟩) ih
def spKept (C : Addr) : Sp := fun vs H Q _ => ∃ (o : Own) (c : Cst) (a : Addr) (svs : List V), vs = [.ref o.p, .ref a] ∧ ConAt C H o c ∧ Cok c ∧ H a = some (.lst svs) ∧ Paired (StepAt H) svs c.steps ∧ ∀ G, Same H G → Q (.bl true) G
section
variable {P : Program} {w : World} {K : PySem.W.Frag} {mg : Str → Option Value} {base : Heap} {C fQ fS fP fU fO : Addr} {dQ dS dP dU dO : FuncData}
theorem scKept : FnScope ["made_v", "plan", "points", "step"] ["made_v", "plan"] (defScope sKept) := ⟨rfl, rfl, rfl, by decide +kernel, rfl, by decide +kernel, by decide +kernel⟩
theorem ok_kept {f : Addr} {fd : FuncData} (F : Fun K "_law_kept" "_law_kept" sKept f fd) (T : ListTxt mg) (CT : ConTxt K mg C) (UQ : CallT P w K mg base CX0 4 "_law_same" ["told", "due"] (spSame 2) fQ dQ) (US : MethT P w K mg base CX0 C 1 "steps" ["self"] (spSteps C) fS dS)
    (UP : MethT P w K mg base CX0 C 1 "points" ["self"] (spPoints C) fP dP) (UU : MethT P w K mg base CX0 C 1 "unknowns" ["self"] (spUnks C) fU dU) (UO : CallT P w K mg base CX0 1 "_law_open" ["plan"] spOpen fO dO) : FnOk P w K mg base CX0 5 f fd ["made_v", "plan"] (spKept C) := by
  refine F.ok scKept (fun vs H Q E h => ?_) (fun cdv A outer s H vs Q E hr h => ?_)
  · obtain ⟨o, c, a, svs, rfl, _⟩ := h
    rfl
  · obtain ⟨o, c, a, svs, rfl, hc, ck, ha, hsp, go⟩ := h
    refine ⟨_, (pss_cons (ps_set (i := 2) scKept.nd rfl (Or.inl rfl) (pe_tupleOf (by rfl) T.tuple (pe_lc (own := [("step", 3)]) (g := (gName 3)) (tt := tYes) (te := (tOp (rIxT K) (tVar 3) (tC (.int 1)))) rfl scKept.nd (pi_list (pv 1)) (blkOk_by (own := [("step", 3)]) (N := ["made_v", "plan", "points", "step"]) (sc := defScope sKept) (by decide +kernel)) (fun _ _ _ _ _ => (pg_name (i := 3) scKept.nd rfl (Or.inl rfl))) (fun _ _ _ _ _ => pts_nil) (fun _ _ _ _ _ => (pe_ix ix_tup (pv 3) pe_int (fun _ _ => rfl))))))
      (pss_cons (ps_if (PW.pt (pw_or (pt_not (pt_val (pe_call UQ.ok (hr.mono (by decide)) rfl UQ.g UQ.k UQ.b .nil pass0 (pa_cons (pe_meth0 (pv 0) CT.cl US.m US.ok (hr.mono (by decide)) US.b .nil pass0) (pa_cons (pe_tupleOf (by rfl) T.tuple (pv 1)) pa_nil))))) (pw_or1 (pt_not (pt_val (pe_call UQ.ok (hr.mono (by decide)) rfl UQ.g UQ.k UQ.b .nil pass0 (pa_cons (pe_meth0 (pv 0) CT.cl UP.m UP.ok (hr.mono (by decide)) UP.b .nil pass0) (pa_cons (pv 2) pa_nil)))))))) (pss_one (ps_ret pe_bl)) pss_nil)
      (pss_one (ps_ret (pe_call UQ.ok (hr.mono (by decide)) rfl UQ.g UQ.k UQ.b .nil pass0 (pa_cons (pe_meth0 (pv 0) CT.cl UU.m UU.ok (hr.mono (by decide)) UU.b .nil pass0) (pa_cons (pe_tupleOf (by rfl) T.tuple (pe_call UO.ok (hr.mono (by decide)) rfl UO.g UO.k UO.b .nil pass0 (pa_cons (pv 1) pa_nil))) pa_nil))))))), ?_⟩
    have l1 : (cF o).lookup ("steps" : Str) = none := f_none (by decide +kernel) (by decide +kernel) (by decide +kernel)
    have l2 : (cF o).lookup ("points" : Str) = none := f_none (by decide +kernel) (by decide +kernel) (by decide +kernel)
    have l3 : (cF o).lookup ("unknowns" : Str) = none := f_none (by decide +kernel) (by decide +kernel) (by decide +kernel)
    have lsv : svs.length = c.steps.length := Paired.length hsp
    have l12 := ck.len
    refine ⟨_, rfl, a, rfl, ⟨_, SqL.of ha⟩, fun D nD => ?_⟩
    refine lc_it (walk_list (K := K) (a := a) (xs := svs)) (fun i G => Same H G ∧ G D = some (.lst ((c.names.take i).map V.str))) ⟨same_new nD, upd_same⟩ (fun i G _ h => SqL.of (h.1 _ _ ha)) (fun i y G G' hi ⟨sG, hD⟩ ⟨e, hy⟩ => ?_) (fun G ⟨sG, hD⟩ => ?_)
    · subst e
      have hy : svs[i]? = some y := hy
      have li : i < c.steps.length := by rw [← lsv]; exact hi
      have hs := List.getElem?_eq_getElem li
      obtain ⟨t, rfl, ht⟩ := pair_get hsp hy hs
      have hn : c.names[i]? = some c.steps[i].nm := by rw [ck.nm, List.getElem?_map, hs]; rfl
      refine ⟨rfl, _, rfl, t, _, _, _, rfl, rfl, SqT.of (sG _ _ ht), (show atI _ ((1 : Nat) : Int) = some (V.str c.steps[i].nm) from atI_nat rfl), _, hD, by rw [List.length_map, List.length_take, sizeLine_eq]; omega, fun b o q => (upd_ne (ne_of_none q nD)).trans (sG _ _ q), ?_⟩
      rw [upd_same, K2P.take_snoc hn, List.map_append]
      rfl
    have ln : c.names.length = c.steps.length := by rw [ck.nm, List.length_map]
    rw [lsv, ← ln, List.take_length] at hD
    refine .inl ⟨D, _, rfl, SqL.of hD, fun p np => ?_⟩
    have s1 := sG.trans (same_new (o := .tup (c.names.map V.str)) np)
    have hp : upd G p (.tup (c.names.map V.str)) p = some (.tup (c.names.map V.str)) := upd_same
    generalize upd G p (.tup (c.names.map V.str)) = G1 at s1 hp ⊢
    have hc1 := hc.up s1
    obtain ⟨dx1, hob1⟩ := hc1.ob
    refine ⟨_, rfl, o.p, dx1, _, rfl, hob1, l1, o, c, rfl, hc1, fun p2 svs2 G2 s2 np2 hp2 hsp2 => ?_⟩
    have h2 := s1.trans s2
    refine ⟨_, rfl, .inl ⟨a, svs, rfl, SqL.of (h2 _ _ ha), fun p3 np3 => ?_⟩⟩
    have s3 := same_new (o := .tup svs) np3
    have hp3 : upd G2 p3 (.tup svs) p3 = some (.tup svs) := upd_same
    generalize upd G2 p3 (.tup svs) = G3 at s3 hp3 ⊢
    have h3 := h2.trans s3
    refine ⟨_, _, rfl, .inr ⟨p2, p3, _, _, rfl, rfl, s3 _ _ hp2, hp3, alk_steps (pair_imp (fun _ _ q => q.up s3) hsp2) (pair_imp (fun _ _ q => q.up h3) hsp) fun s m => (ck.st s m).1, by rw [Paired.length hsp2]; omega⟩, fun G4 s4 => ⟨_, rfl, ifN rfl ?_⟩⟩
    have h4 := h3.trans s4
    have hc4 := hc.up h4
    obtain ⟨dx4, hob4⟩ := hc4.ob
    refine ⟨_, rfl, o.p, dx4, _, rfl, hob4, l2, o, c, rfl, hc4, fun p5 G5 s5 np5 hp5 => ?_⟩
    refine ⟨_, rfl, _, _, rfl, .inr ⟨p5, p, _, _, rfl, rfl, hp5, (s2.trans (s3.trans (s4.trans s5))) _ _ hp, alk_strs _, by rw [List.length_map]; omega⟩, fun G6 s6 => ⟨_, rfl, ifN rfl ?_⟩⟩
    have h6 := h4.trans (s5.trans s6)
    have hc6 := hc.up h6
    obtain ⟨dx6, hob6⟩ := hc6.ob
    refine ⟨_, rfl, o.p, dx6, _, rfl, hob6, l3, o, c, rfl, hc6, fun p7 G7 s7 np7 hp7 => ?_⟩
    have h7 := h6.trans s7
    refine ⟨_, rfl, a, svs, c.steps, rfl, h7 _ _ ha, pair_imp (fun _ _ q => q.up h7) hsp, fun s m => by have := nm_len (ck.st s m).2; omega, by omega, fun D8 G8 s8 hD8 => ?_⟩
    rw [← ck.un] at hD8
    refine .inl ⟨D8, _, rfl, SqL.of hD8, fun p9 np9 => ?_⟩
    have s9 := same_new (o := .tup (c.unk.map V.str)) np9
    have hp9 : upd G8 p9 (.tup (c.unk.map V.str)) p9 = some (.tup (c.unk.map V.str)) := upd_same
    generalize upd G8 p9 (.tup (c.unk.map V.str)) = G9 at s9 hp9 ⊢
    have ul := ck.ul
    exact ⟨_, _, rfl, .inr ⟨p7, p9, _, _, rfl, rfl, (s8.trans s9) _ _ hp7, hp9, alk_strs _, by rw [List.length_map]; omega⟩, fun Gf sf => go Gf (h7.trans (s8.trans (s9.trans sf)))⟩
end
end CN

set_option Elab.async false
set_option linter.all false
set_option maxRecDepth 100000
set_option maxHeartbeats 4000000
set_option autoImplicit false
set_option pp.maxSteps 300
/-! The law's lists of steps. -/
namespace CN
open PySem L2 K1D K2P
abbrev sBad : Stmt := K2P.top 71
def badL (p a b c l m z : Str) : List Stp := [⟨.foot, p, [c, a, a], []⟩, ⟨.mirror, p, [c, b, b], []⟩, ⟨.second, p, [a, a, c], []⟩, ⟨.foot, p, [c, a, z], []⟩, ⟨.foot, p, [l, l, l], []⟩, ⟨.mirror, p, [b, z, a], []⟩, ⟨.second, p, [z, a, b], []⟩, ⟨.mirror, p, [m, m, m], []⟩, ⟨.second, p, [c, c, c], []⟩, ⟨.meet, p, [a, a, b, c], []⟩, ⟨.meet, p, [b, c, a, a], []⟩, ⟨.meet, p, [a, b, a, b], []⟩, ⟨.meet, p, [a, b, b, a], []⟩, ⟨.meet, p, [a, b, a, l], []⟩, ⟨.meet, p, [a, l, b, l], []⟩, ⟨.meet, p, [a, b, c, m], []⟩, ⟨.meet, p, [m, c, l, a], []⟩, ⟨.meet, p, [a, z, b, c], []⟩, ⟨.meet, p, [a, c, b, m], []⟩, ⟨.meet, p, [b, m, z, c], []⟩, ⟨.meet, p, [z, b, m, c], []⟩, ⟨.centre, p, [a, b, l], []⟩, ⟨.centre, p, [a, a, b], []⟩, ⟨.centre, p, [c, b, c], []⟩, ⟨.centre, p, [a, z, c], []⟩, ⟨.centre, p, [l, b, a], []⟩, ⟨.centre, p, [b, b, b], []⟩, ⟨.centre, p, [z, l, b], []⟩, ⟨.centre, p, [m, c, c], []⟩]
def spBad : Sp := fun vs H Q _ => ∃ (p a b c l m z : Str) (ns : List Str) (A : Addr), vs = [.str p, .ref A] ∧ H A = some (.lst ((a :: b :: c :: l :: m :: z :: ns).map V.str)) ∧ ∀ (D : Addr) (us : List V) (G : Hp), Same H G → H D = none → G D = some (.lst us) → Paired (StepAt G) us (badL p a b c l m z) → Q (.ref D) G
section
variable {P : Program} {w : World} {K : PySem.W.Frag} {mg : Str → Option Value} {base : Heap}
theorem scBad : FnScope ["p", "names", "a", "b", "c", "l", "m", "z", "found"] ["p", "names"] (defScope sBad) := ⟨rfl, rfl, rfl, by decide +kernel, rfl, by decide +kernel, by decide +kernel⟩
theorem ok_badL {f : Addr} {fd : FuncData} (F : Fun K "_law_impossible" "_law_impossible" sBad f fd) : FnOk P w K mg base CX0 1 f fd ["p", "names"] spBad := by
  refine F.ok scBad (fun vs H Q E h => ?_) (fun cdv A outer s H vs Q E hr h => ?_)
  · obtain ⟨p, a, b, c, l, m, z, ns, A, rfl, _⟩ := h
    rfl
  · obtain ⟨p, a, b, c, l, m, z, ns, A, rfl, hA, go⟩ := h
    refine ⟨_, (pss_cons (ps_asg (pe_slice sl_list (pv 1) po_none (po_some pe_int)) (pg_lst rfl (pgs_cons (pg_name (i := 2) scBad.nd rfl (Or.inl rfl)) (pgs_cons (pg_name (i := 3) scBad.nd rfl (Or.inl rfl)) (pgs_cons (pg_name (i := 4) scBad.nd rfl (Or.inl rfl)) (pgs_cons (pg_name (i := 5) scBad.nd rfl (Or.inl rfl)) (pgs_cons (pg_name (i := 6) scBad.nd rfl (Or.inl rfl)) (pgs_cons (pg_name (i := 7) scBad.nd rfl (Or.inl rfl)) pgs_nil))))))))
      (pss_cons (ps_set (i := 8) scBad.nd rfl (Or.inl rfl) (pe_lst (pa_cons (pe_tup (pa_cons pe_str (pa_cons (pv 0) (pa_cons (pv 4) (pa_cons (pv 2) (pa_cons (pv 2) pa_nil)))))) (pa_cons (pe_tup (pa_cons pe_str (pa_cons (pv 0) (pa_cons (pv 4) (pa_cons (pv 3) (pa_cons (pv 3) pa_nil)))))) pa_nil))))
      (pss_cons (ps_set (i := 8) scBad.nd rfl (Or.inl rfl) (pe_op op_cat (pv 8) (pe_lst (pa_cons (pe_tup (pa_cons pe_str (pa_cons (pv 0) (pa_cons (pv 2) (pa_cons (pv 2) (pa_cons (pv 4) pa_nil)))))) (pa_cons (pe_tup (pa_cons pe_str (pa_cons (pv 0) (pa_cons (pv 4) (pa_cons (pv 2) (pa_cons (pv 7) pa_nil)))))) pa_nil)))))
      (pss_cons (ps_expr (pe_bm PySem.F.plainAttrs_list PySem.F.slot_list_append PySem.F.type_list_append mt_append (pv 8) (pa_cons (pe_tup (pa_cons pe_str (pa_cons (pv 0) (pa_cons (pv 5) (pa_cons (pv 5) (pa_cons (pv 5) pa_nil)))))) pa_nil)))
      (pss_cons (ps_set (i := 8) scBad.nd rfl (Or.inl rfl) (pe_op op_cat (pv 8) (pe_lst (pa_cons (pe_tup (pa_cons pe_str (pa_cons (pv 0) (pa_cons (pv 3) (pa_cons (pv 7) (pa_cons (pv 2) pa_nil)))))) (pa_cons (pe_tup (pa_cons pe_str (pa_cons (pv 0) (pa_cons (pv 7) (pa_cons (pv 2) (pa_cons (pv 3) pa_nil)))))) pa_nil)))))
      (pss_cons (ps_set (i := 8) scBad.nd rfl (Or.inl rfl) (pe_op op_cat (pv 8) (pe_lst (pa_cons (pe_tup (pa_cons pe_str (pa_cons (pv 0) (pa_cons (pv 6) (pa_cons (pv 6) (pa_cons (pv 6) pa_nil)))))) (pa_cons (pe_tup (pa_cons pe_str (pa_cons (pv 0) (pa_cons (pv 4) (pa_cons (pv 4) (pa_cons (pv 4) pa_nil)))))) pa_nil)))))
      (pss_cons (ps_set (i := 8) scBad.nd rfl (Or.inl rfl) (pe_op op_cat (pv 8) (pe_lst (pa_cons (pe_tup (pa_cons pe_str (pa_cons (pv 0) (pa_cons (pv 2) (pa_cons (pv 2) (pa_cons (pv 3) (pa_cons (pv 4) pa_nil))))))) (pa_cons (pe_tup (pa_cons pe_str (pa_cons (pv 0) (pa_cons (pv 3) (pa_cons (pv 4) (pa_cons (pv 2) (pa_cons (pv 2) pa_nil))))))) pa_nil)))))
      (pss_cons (ps_set (i := 8) scBad.nd rfl (Or.inl rfl) (pe_op op_cat (pv 8) (pe_lst (pa_cons (pe_tup (pa_cons pe_str (pa_cons (pv 0) (pa_cons (pv 2) (pa_cons (pv 3) (pa_cons (pv 2) (pa_cons (pv 3) pa_nil))))))) (pa_cons (pe_tup (pa_cons pe_str (pa_cons (pv 0) (pa_cons (pv 2) (pa_cons (pv 3) (pa_cons (pv 3) (pa_cons (pv 2) pa_nil))))))) pa_nil)))))
      (pss_cons (ps_set (i := 8) scBad.nd rfl (Or.inl rfl) (pe_op op_cat (pv 8) (pe_lst (pa_cons (pe_tup (pa_cons pe_str (pa_cons (pv 0) (pa_cons (pv 2) (pa_cons (pv 3) (pa_cons (pv 2) (pa_cons (pv 5) pa_nil))))))) (pa_cons (pe_tup (pa_cons pe_str (pa_cons (pv 0) (pa_cons (pv 2) (pa_cons (pv 5) (pa_cons (pv 3) (pa_cons (pv 5) pa_nil))))))) pa_nil)))))
      (pss_cons (ps_set (i := 8) scBad.nd rfl (Or.inl rfl) (pe_op op_cat (pv 8) (pe_lst (pa_cons (pe_tup (pa_cons pe_str (pa_cons (pv 0) (pa_cons (pv 2) (pa_cons (pv 3) (pa_cons (pv 4) (pa_cons (pv 6) pa_nil))))))) (pa_cons (pe_tup (pa_cons pe_str (pa_cons (pv 0) (pa_cons (pv 6) (pa_cons (pv 4) (pa_cons (pv 5) (pa_cons (pv 2) pa_nil))))))) pa_nil)))))
      (pss_cons (ps_set (i := 8) scBad.nd rfl (Or.inl rfl) (pe_op op_cat (pv 8) (pe_lst (pa_cons (pe_tup (pa_cons pe_str (pa_cons (pv 0) (pa_cons (pv 2) (pa_cons (pv 7) (pa_cons (pv 3) (pa_cons (pv 4) pa_nil))))))) (pa_cons (pe_tup (pa_cons pe_str (pa_cons (pv 0) (pa_cons (pv 2) (pa_cons (pv 4) (pa_cons (pv 3) (pa_cons (pv 6) pa_nil))))))) pa_nil)))))
      (pss_cons (ps_set (i := 8) scBad.nd rfl (Or.inl rfl) (pe_op op_cat (pv 8) (pe_lst (pa_cons (pe_tup (pa_cons pe_str (pa_cons (pv 0) (pa_cons (pv 3) (pa_cons (pv 6) (pa_cons (pv 7) (pa_cons (pv 4) pa_nil))))))) (pa_cons (pe_tup (pa_cons pe_str (pa_cons (pv 0) (pa_cons (pv 7) (pa_cons (pv 3) (pa_cons (pv 6) (pa_cons (pv 4) pa_nil))))))) pa_nil)))))
      (pss_cons (ps_set (i := 8) scBad.nd rfl (Or.inl rfl) (pe_op op_cat (pv 8) (pe_lst (pa_cons (pe_tup (pa_cons pe_str (pa_cons (pv 0) (pa_cons (pv 2) (pa_cons (pv 3) (pa_cons (pv 5) pa_nil)))))) (pa_cons (pe_tup (pa_cons pe_str (pa_cons (pv 0) (pa_cons (pv 2) (pa_cons (pv 2) (pa_cons (pv 3) pa_nil)))))) pa_nil)))))
      (pss_cons (ps_set (i := 8) scBad.nd rfl (Or.inl rfl) (pe_op op_cat (pv 8) (pe_lst (pa_cons (pe_tup (pa_cons pe_str (pa_cons (pv 0) (pa_cons (pv 4) (pa_cons (pv 3) (pa_cons (pv 4) pa_nil)))))) (pa_cons (pe_tup (pa_cons pe_str (pa_cons (pv 0) (pa_cons (pv 2) (pa_cons (pv 7) (pa_cons (pv 4) pa_nil)))))) pa_nil)))))
      (pss_cons (ps_set (i := 8) scBad.nd rfl (Or.inl rfl) (pe_op op_cat (pv 8) (pe_lst (pa_cons (pe_tup (pa_cons pe_str (pa_cons (pv 0) (pa_cons (pv 5) (pa_cons (pv 3) (pa_cons (pv 2) pa_nil)))))) (pa_cons (pe_tup (pa_cons pe_str (pa_cons (pv 0) (pa_cons (pv 3) (pa_cons (pv 3) (pa_cons (pv 3) pa_nil)))))) pa_nil)))))
      (pss_one (ps_ret (pe_op op_cat (pv 8) (pe_lst (pa_cons (pe_tup (pa_cons pe_str (pa_cons (pv 0) (pa_cons (pv 7) (pa_cons (pv 5) (pa_cons (pv 3) pa_nil)))))) (pa_cons (pe_tup (pa_cons pe_str (pa_cons (pv 0) (pa_cons (pv 6) (pa_cons (pv 4) (pa_cons (pv 4) pa_nil)))))) pa_nil))))))))))))))))))))), ?_⟩
    refine ⟨_, rfl, _, rfl, A, _, rfl, SqL.of hA, fun D0 nD0 => ?_⟩
    have hc : cutV ((a :: b :: c :: l :: m :: z :: ns).map V.str) none (some 6) = [.str a, .str b, .str c, .str l, .str m, .str z] := cut_six _ _ _ _ _ _ _
    rw [hc]
    have s0 := same_new (o := .lst [.str a, .str b, .str c, .str l, .str m, .str z]) nD0
    have h0 : upd H D0 (.lst [.str a, .str b, .str c, .str l, .str m, .str z]) D0 = some (.lst [.str a, .str b, .str c, .str l, .str m, .str z]) := upd_same
    generalize upd H D0 (.lst [.str a, .str b, .str c, .str l, .str m, .str z]) = G0 at s0 h0 ⊢
    refine ⟨D0, _, rfl, SqL.of h0, rfl, _, _, rfl, _, _, rfl, _, _, rfl, _, _, rfl, _, _, rfl, _, _, rfl, rfl, ?_⟩
    dsimp only
    refine st_re (σ2 := [some (.str p), some (.ref A), some (.str a), some (.str b), some (.str c), some (.str l), some (.str m), some (.str z), none]) rfl ?_
    try dsimp only
    refine st_slst (tss := ([[(tC (.str "foot")), (tVar 0), (tVar 4), (tVar 2), (tVar 2)], [(tC (.str "mirror")), (tVar 0), (tVar 4), (tVar 3), (tVar 3)]] : List (List TE))) (ss := ([⟨.foot, p, [c, a, a], []⟩, ⟨.mirror, p, [c, b, b], []⟩] : List Stp)) (.cons ⟨(.cons pure_c (.cons (pure_v rfl) (.cons (pure_v rfl) (.cons (pure_v rfl) (.cons (pure_v rfl) .nil))))), Nat.le_of_ble_eq_true rfl⟩ (.cons ⟨(.cons pure_c (.cons (pure_v rfl) (.cons (pure_v rfl) (.cons (pure_v rfl) (.cons (pure_v rfl) .nil))))), Nat.le_of_ble_eq_true rfl⟩ .nil)) (Nat.le_of_ble_eq_true rfl) fun G1 D1 us1 s1 n1 h1 u1 => ?_
    have a1 := s0.trans s1
    have m1 := none_up s0 n1
    obtain ⟨L1, e1⟩ : ∃ L, L = ([⟨.foot, p, [c, a, a], []⟩, ⟨.mirror, p, [c, b, b], []⟩] : List Stp) := ⟨_, rfl⟩
    rw [← e1] at u1
    have q1 : L1.length ≤ 2 := by rw [e1]; exact Nat.le_of_ble_eq_true rfl
    try dsimp only [List.set]
    try dsimp only
    refine st_scat (tss := ([[(tC (.str "second")), (tVar 0), (tVar 2), (tVar 2), (tVar 4)], [(tC (.str "foot")), (tVar 0), (tVar 4), (tVar 2), (tVar 7)]] : List (List TE))) (ss := ([⟨.second, p, [a, a, c], []⟩, ⟨.foot, p, [c, a, z], []⟩] : List Stp)) rfl h1 u1 (.cons ⟨(.cons pure_c (.cons (pure_v rfl) (.cons (pure_v rfl) (.cons (pure_v rfl) (.cons (pure_v rfl) .nil))))), Nat.le_of_ble_eq_true rfl⟩ (.cons ⟨(.cons pure_c (.cons (pure_v rfl) (.cons (pure_v rfl) (.cons (pure_v rfl) (.cons (pure_v rfl) .nil))))), Nat.le_of_ble_eq_true rfl⟩ .nil)) (Nat.le_trans (Nat.add_le_add_right q1 _) (Nat.le_of_ble_eq_true rfl)) fun G2 D2 us2 s2 n2 h2 u2 => ?_
    have a2 := a1.trans s2
    have m2 := none_up a1 n2
    obtain ⟨L2, e2⟩ : ∃ L, L = L1 ++ ([⟨.second, p, [a, a, c], []⟩, ⟨.foot, p, [c, a, z], []⟩] : List Stp) := ⟨_, rfl⟩
    rw [← e2] at u2
    have q2 : L2.length ≤ 4 := by rw [e2, List.length_append]; simp only [List.length_cons, List.length_nil]; omega
    try dsimp only [List.set]
    try dsimp only
    refine st_sapp (i := 8) (ts := [(tC (.str "foot")), (tVar 0), (tVar 5), (tVar 5), (tVar 5)]) (s := ⟨.foot, p, [l, l, l], []⟩) rfl h2 u2 (.cons pure_c (.cons (pure_v rfl) (.cons (pure_v rfl) (.cons (pure_v rfl) (.cons (pure_v rfl) .nil))))) (Nat.le_of_ble_eq_true rfl) (Nat.le_trans q2 (Nat.le_of_ble_eq_true rfl)) ?_
    intro G3 us3 c3 h3 u3
    have a3 : Same H G3 := fun b x q => c3 _ _ (a2 _ _ q) (ne_of_none q m2)
    have m3 := m2
    obtain ⟨D3, eD3⟩ : ∃ D, D = D2 := ⟨_, rfl⟩
    subst eD3
    obtain ⟨L3, e3⟩ : ∃ L, L = L2 ++ ([⟨.foot, p, [l, l, l], []⟩] : List Stp) := ⟨_, rfl⟩
    rw [← e3] at u3
    have q3 : L3.length ≤ 5 := by rw [e3, List.length_append]; simp only [List.length_cons, List.length_nil]; omega
    try dsimp only [List.set]
    try dsimp only
    refine st_scat (tss := ([[(tC (.str "mirror")), (tVar 0), (tVar 3), (tVar 7), (tVar 2)], [(tC (.str "second")), (tVar 0), (tVar 7), (tVar 2), (tVar 3)]] : List (List TE))) (ss := ([⟨.mirror, p, [b, z, a], []⟩, ⟨.second, p, [z, a, b], []⟩] : List Stp)) rfl h3 u3 (.cons ⟨(.cons pure_c (.cons (pure_v rfl) (.cons (pure_v rfl) (.cons (pure_v rfl) (.cons (pure_v rfl) .nil))))), Nat.le_of_ble_eq_true rfl⟩ (.cons ⟨(.cons pure_c (.cons (pure_v rfl) (.cons (pure_v rfl) (.cons (pure_v rfl) (.cons (pure_v rfl) .nil))))), Nat.le_of_ble_eq_true rfl⟩ .nil)) (Nat.le_trans (Nat.add_le_add_right q3 _) (Nat.le_of_ble_eq_true rfl)) fun G4 D4 us4 s4 n4 h4 u4 => ?_
    have a4 := a3.trans s4
    have m4 := none_up a3 n4
    obtain ⟨L4, e4⟩ : ∃ L, L = L3 ++ ([⟨.mirror, p, [b, z, a], []⟩, ⟨.second, p, [z, a, b], []⟩] : List Stp) := ⟨_, rfl⟩
    rw [← e4] at u4
    have q4 : L4.length ≤ 7 := by rw [e4, List.length_append]; simp only [List.length_cons, List.length_nil]; omega
    try dsimp only [List.set]
    try dsimp only
    refine st_scat (tss := ([[(tC (.str "mirror")), (tVar 0), (tVar 6), (tVar 6), (tVar 6)], [(tC (.str "second")), (tVar 0), (tVar 4), (tVar 4), (tVar 4)]] : List (List TE))) (ss := ([⟨.mirror, p, [m, m, m], []⟩, ⟨.second, p, [c, c, c], []⟩] : List Stp)) rfl h4 u4 (.cons ⟨(.cons pure_c (.cons (pure_v rfl) (.cons (pure_v rfl) (.cons (pure_v rfl) (.cons (pure_v rfl) .nil))))), Nat.le_of_ble_eq_true rfl⟩ (.cons ⟨(.cons pure_c (.cons (pure_v rfl) (.cons (pure_v rfl) (.cons (pure_v rfl) (.cons (pure_v rfl) .nil))))), Nat.le_of_ble_eq_true rfl⟩ .nil)) (Nat.le_trans (Nat.add_le_add_right q4 _) (Nat.le_of_ble_eq_true rfl)) fun G5 D5 us5 s5 n5 h5 u5 => ?_
    have a5 := a4.trans s5
    have m5 := none_up a4 n5
    obtain ⟨L5, e5⟩ : ∃ L, L = L4 ++ ([⟨.mirror, p, [m, m, m], []⟩, ⟨.second, p, [c, c, c], []⟩] : List Stp) := ⟨_, rfl⟩
    rw [← e5] at u5
    have q5 : L5.length ≤ 9 := by rw [e5, List.length_append]; simp only [List.length_cons, List.length_nil]; omega
    try dsimp only [List.set]
    try dsimp only
    refine st_scat (tss := ([[(tC (.str "meet")), (tVar 0), (tVar 2), (tVar 2), (tVar 3), (tVar 4)], [(tC (.str "meet")), (tVar 0), (tVar 3), (tVar 4), (tVar 2), (tVar 2)]] : List (List TE))) (ss := ([⟨.meet, p, [a, a, b, c], []⟩, ⟨.meet, p, [b, c, a, a], []⟩] : List Stp)) rfl h5 u5 (.cons ⟨(.cons pure_c (.cons (pure_v rfl) (.cons (pure_v rfl) (.cons (pure_v rfl) (.cons (pure_v rfl) (.cons (pure_v rfl) .nil)))))), Nat.le_of_ble_eq_true rfl⟩ (.cons ⟨(.cons pure_c (.cons (pure_v rfl) (.cons (pure_v rfl) (.cons (pure_v rfl) (.cons (pure_v rfl) (.cons (pure_v rfl) .nil)))))), Nat.le_of_ble_eq_true rfl⟩ .nil)) (Nat.le_trans (Nat.add_le_add_right q5 _) (Nat.le_of_ble_eq_true rfl)) fun G6 D6 us6 s6 n6 h6 u6 => ?_
    have a6 := a5.trans s6
    have m6 := none_up a5 n6
    obtain ⟨L6, e6⟩ : ∃ L, L = L5 ++ ([⟨.meet, p, [a, a, b, c], []⟩, ⟨.meet, p, [b, c, a, a], []⟩] : List Stp) := ⟨_, rfl⟩
    rw [← e6] at u6
    have q6 : L6.length ≤ 11 := by rw [e6, List.length_append]; simp only [List.length_cons, List.length_nil]; omega
    try dsimp only [List.set]
    try dsimp only
    refine st_scat (tss := ([[(tC (.str "meet")), (tVar 0), (tVar 2), (tVar 3), (tVar 2), (tVar 3)], [(tC (.str "meet")), (tVar 0), (tVar 2), (tVar 3), (tVar 3), (tVar 2)]] : List (List TE))) (ss := ([⟨.meet, p, [a, b, a, b], []⟩, ⟨.meet, p, [a, b, b, a], []⟩] : List Stp)) rfl h6 u6 (.cons ⟨(.cons pure_c (.cons (pure_v rfl) (.cons (pure_v rfl) (.cons (pure_v rfl) (.cons (pure_v rfl) (.cons (pure_v rfl) .nil)))))), Nat.le_of_ble_eq_true rfl⟩ (.cons ⟨(.cons pure_c (.cons (pure_v rfl) (.cons (pure_v rfl) (.cons (pure_v rfl) (.cons (pure_v rfl) (.cons (pure_v rfl) .nil)))))), Nat.le_of_ble_eq_true rfl⟩ .nil)) (Nat.le_trans (Nat.add_le_add_right q6 _) (Nat.le_of_ble_eq_true rfl)) fun G7 D7 us7 s7 n7 h7 u7 => ?_
    have a7 := a6.trans s7
    have m7 := none_up a6 n7
    obtain ⟨L7, e7⟩ : ∃ L, L = L6 ++ ([⟨.meet, p, [a, b, a, b], []⟩, ⟨.meet, p, [a, b, b, a], []⟩] : List Stp) := ⟨_, rfl⟩
    rw [← e7] at u7
    have q7 : L7.length ≤ 13 := by rw [e7, List.length_append]; simp only [List.length_cons, List.length_nil]; omega
    try dsimp only [List.set]
    try dsimp only
    refine st_scat (tss := ([[(tC (.str "meet")), (tVar 0), (tVar 2), (tVar 3), (tVar 2), (tVar 5)], [(tC (.str "meet")), (tVar 0), (tVar 2), (tVar 5), (tVar 3), (tVar 5)]] : List (List TE))) (ss := ([⟨.meet, p, [a, b, a, l], []⟩, ⟨.meet, p, [a, l, b, l], []⟩] : List Stp)) rfl h7 u7 (.cons ⟨(.cons pure_c (.cons (pure_v rfl) (.cons (pure_v rfl) (.cons (pure_v rfl) (.cons (pure_v rfl) (.cons (pure_v rfl) .nil)))))), Nat.le_of_ble_eq_true rfl⟩ (.cons ⟨(.cons pure_c (.cons (pure_v rfl) (.cons (pure_v rfl) (.cons (pure_v rfl) (.cons (pure_v rfl) (.cons (pure_v rfl) .nil)))))), Nat.le_of_ble_eq_true rfl⟩ .nil)) (Nat.le_trans (Nat.add_le_add_right q7 _) (Nat.le_of_ble_eq_true rfl)) fun G8 D8 us8 s8 n8 h8 u8 => ?_
    have a8 := a7.trans s8
    have m8 := none_up a7 n8
    obtain ⟨L8, e8⟩ : ∃ L, L = L7 ++ ([⟨.meet, p, [a, b, a, l], []⟩, ⟨.meet, p, [a, l, b, l], []⟩] : List Stp) := ⟨_, rfl⟩
    rw [← e8] at u8
    have q8 : L8.length ≤ 15 := by rw [e8, List.length_append]; simp only [List.length_cons, List.length_nil]; omega
    try dsimp only [List.set]
    try dsimp only
    refine st_scat (tss := ([[(tC (.str "meet")), (tVar 0), (tVar 2), (tVar 3), (tVar 4), (tVar 6)], [(tC (.str "meet")), (tVar 0), (tVar 6), (tVar 4), (tVar 5), (tVar 2)]] : List (List TE))) (ss := ([⟨.meet, p, [a, b, c, m], []⟩, ⟨.meet, p, [m, c, l, a], []⟩] : List Stp)) rfl h8 u8 (.cons ⟨(.cons pure_c (.cons (pure_v rfl) (.cons (pure_v rfl) (.cons (pure_v rfl) (.cons (pure_v rfl) (.cons (pure_v rfl) .nil)))))), Nat.le_of_ble_eq_true rfl⟩ (.cons ⟨(.cons pure_c (.cons (pure_v rfl) (.cons (pure_v rfl) (.cons (pure_v rfl) (.cons (pure_v rfl) (.cons (pure_v rfl) .nil)))))), Nat.le_of_ble_eq_true rfl⟩ .nil)) (Nat.le_trans (Nat.add_le_add_right q8 _) (Nat.le_of_ble_eq_true rfl)) fun G9 D9 us9 s9 n9 h9 u9 => ?_
    have a9 := a8.trans s9
    have m9 := none_up a8 n9
    obtain ⟨L9, e9⟩ : ∃ L, L = L8 ++ ([⟨.meet, p, [a, b, c, m], []⟩, ⟨.meet, p, [m, c, l, a], []⟩] : List Stp) := ⟨_, rfl⟩
    rw [← e9] at u9
    have q9 : L9.length ≤ 17 := by rw [e9, List.length_append]; simp only [List.length_cons, List.length_nil]; omega
    try dsimp only [List.set]
    try dsimp only
    refine st_scat (tss := ([[(tC (.str "meet")), (tVar 0), (tVar 2), (tVar 7), (tVar 3), (tVar 4)], [(tC (.str "meet")), (tVar 0), (tVar 2), (tVar 4), (tVar 3), (tVar 6)]] : List (List TE))) (ss := ([⟨.meet, p, [a, z, b, c], []⟩, ⟨.meet, p, [a, c, b, m], []⟩] : List Stp)) rfl h9 u9 (.cons ⟨(.cons pure_c (.cons (pure_v rfl) (.cons (pure_v rfl) (.cons (pure_v rfl) (.cons (pure_v rfl) (.cons (pure_v rfl) .nil)))))), Nat.le_of_ble_eq_true rfl⟩ (.cons ⟨(.cons pure_c (.cons (pure_v rfl) (.cons (pure_v rfl) (.cons (pure_v rfl) (.cons (pure_v rfl) (.cons (pure_v rfl) .nil)))))), Nat.le_of_ble_eq_true rfl⟩ .nil)) (Nat.le_trans (Nat.add_le_add_right q9 _) (Nat.le_of_ble_eq_true rfl)) fun G10 D10 us10 s10 n10 h10 u10 => ?_
    have a10 := a9.trans s10
    have m10 := none_up a9 n10
    obtain ⟨L10, e10⟩ : ∃ L, L = L9 ++ ([⟨.meet, p, [a, z, b, c], []⟩, ⟨.meet, p, [a, c, b, m], []⟩] : List Stp) := ⟨_, rfl⟩
    rw [← e10] at u10
    have q10 : L10.length ≤ 19 := by rw [e10, List.length_append]; simp only [List.length_cons, List.length_nil]; omega
    try dsimp only [List.set]
    try dsimp only
    refine st_scat (tss := ([[(tC (.str "meet")), (tVar 0), (tVar 3), (tVar 6), (tVar 7), (tVar 4)], [(tC (.str "meet")), (tVar 0), (tVar 7), (tVar 3), (tVar 6), (tVar 4)]] : List (List TE))) (ss := ([⟨.meet, p, [b, m, z, c], []⟩, ⟨.meet, p, [z, b, m, c], []⟩] : List Stp)) rfl h10 u10 (.cons ⟨(.cons pure_c (.cons (pure_v rfl) (.cons (pure_v rfl) (.cons (pure_v rfl) (.cons (pure_v rfl) (.cons (pure_v rfl) .nil)))))), Nat.le_of_ble_eq_true rfl⟩ (.cons ⟨(.cons pure_c (.cons (pure_v rfl) (.cons (pure_v rfl) (.cons (pure_v rfl) (.cons (pure_v rfl) (.cons (pure_v rfl) .nil)))))), Nat.le_of_ble_eq_true rfl⟩ .nil)) (Nat.le_trans (Nat.add_le_add_right q10 _) (Nat.le_of_ble_eq_true rfl)) fun G11 D11 us11 s11 n11 h11 u11 => ?_
    have a11 := a10.trans s11
    have m11 := none_up a10 n11
    obtain ⟨L11, e11⟩ : ∃ L, L = L10 ++ ([⟨.meet, p, [b, m, z, c], []⟩, ⟨.meet, p, [z, b, m, c], []⟩] : List Stp) := ⟨_, rfl⟩
    rw [← e11] at u11
    have q11 : L11.length ≤ 21 := by rw [e11, List.length_append]; simp only [List.length_cons, List.length_nil]; omega
    try dsimp only [List.set]
    try dsimp only
    refine st_scat (tss := ([[(tC (.str "centre")), (tVar 0), (tVar 2), (tVar 3), (tVar 5)], [(tC (.str "centre")), (tVar 0), (tVar 2), (tVar 2), (tVar 3)]] : List (List TE))) (ss := ([⟨.centre, p, [a, b, l], []⟩, ⟨.centre, p, [a, a, b], []⟩] : List Stp)) rfl h11 u11 (.cons ⟨(.cons pure_c (.cons (pure_v rfl) (.cons (pure_v rfl) (.cons (pure_v rfl) (.cons (pure_v rfl) .nil))))), Nat.le_of_ble_eq_true rfl⟩ (.cons ⟨(.cons pure_c (.cons (pure_v rfl) (.cons (pure_v rfl) (.cons (pure_v rfl) (.cons (pure_v rfl) .nil))))), Nat.le_of_ble_eq_true rfl⟩ .nil)) (Nat.le_trans (Nat.add_le_add_right q11 _) (Nat.le_of_ble_eq_true rfl)) fun G12 D12 us12 s12 n12 h12 u12 => ?_
    have a12 := a11.trans s12
    have m12 := none_up a11 n12
    obtain ⟨L12, e12⟩ : ∃ L, L = L11 ++ ([⟨.centre, p, [a, b, l], []⟩, ⟨.centre, p, [a, a, b], []⟩] : List Stp) := ⟨_, rfl⟩
    rw [← e12] at u12
    have q12 : L12.length ≤ 23 := by rw [e12, List.length_append]; simp only [List.length_cons, List.length_nil]; omega
    try dsimp only [List.set]
    try dsimp only
    refine st_scat (tss := ([[(tC (.str "centre")), (tVar 0), (tVar 4), (tVar 3), (tVar 4)], [(tC (.str "centre")), (tVar 0), (tVar 2), (tVar 7), (tVar 4)]] : List (List TE))) (ss := ([⟨.centre, p, [c, b, c], []⟩, ⟨.centre, p, [a, z, c], []⟩] : List Stp)) rfl h12 u12 (.cons ⟨(.cons pure_c (.cons (pure_v rfl) (.cons (pure_v rfl) (.cons (pure_v rfl) (.cons (pure_v rfl) .nil))))), Nat.le_of_ble_eq_true rfl⟩ (.cons ⟨(.cons pure_c (.cons (pure_v rfl) (.cons (pure_v rfl) (.cons (pure_v rfl) (.cons (pure_v rfl) .nil))))), Nat.le_of_ble_eq_true rfl⟩ .nil)) (Nat.le_trans (Nat.add_le_add_right q12 _) (Nat.le_of_ble_eq_true rfl)) fun G13 D13 us13 s13 n13 h13 u13 => ?_
    have a13 := a12.trans s13
    have m13 := none_up a12 n13
    obtain ⟨L13, e13⟩ : ∃ L, L = L12 ++ ([⟨.centre, p, [c, b, c], []⟩, ⟨.centre, p, [a, z, c], []⟩] : List Stp) := ⟨_, rfl⟩
    rw [← e13] at u13
    have q13 : L13.length ≤ 25 := by rw [e13, List.length_append]; simp only [List.length_cons, List.length_nil]; omega
    try dsimp only [List.set]
    try dsimp only
    refine st_scat (tss := ([[(tC (.str "centre")), (tVar 0), (tVar 5), (tVar 3), (tVar 2)], [(tC (.str "centre")), (tVar 0), (tVar 3), (tVar 3), (tVar 3)]] : List (List TE))) (ss := ([⟨.centre, p, [l, b, a], []⟩, ⟨.centre, p, [b, b, b], []⟩] : List Stp)) rfl h13 u13 (.cons ⟨(.cons pure_c (.cons (pure_v rfl) (.cons (pure_v rfl) (.cons (pure_v rfl) (.cons (pure_v rfl) .nil))))), Nat.le_of_ble_eq_true rfl⟩ (.cons ⟨(.cons pure_c (.cons (pure_v rfl) (.cons (pure_v rfl) (.cons (pure_v rfl) (.cons (pure_v rfl) .nil))))), Nat.le_of_ble_eq_true rfl⟩ .nil)) (Nat.le_trans (Nat.add_le_add_right q13 _) (Nat.le_of_ble_eq_true rfl)) fun G14 D14 us14 s14 n14 h14 u14 => ?_
    have a14 := a13.trans s14
    have m14 := none_up a13 n14
    obtain ⟨L14, e14⟩ : ∃ L, L = L13 ++ ([⟨.centre, p, [l, b, a], []⟩, ⟨.centre, p, [b, b, b], []⟩] : List Stp) := ⟨_, rfl⟩
    rw [← e14] at u14
    have q14 : L14.length ≤ 27 := by rw [e14, List.length_append]; simp only [List.length_cons, List.length_nil]; omega
    try dsimp only [List.set]
    try dsimp only
    refine st_scatr (tss := ([[(tC (.str "centre")), (tVar 0), (tVar 7), (tVar 5), (tVar 3)], [(tC (.str "centre")), (tVar 0), (tVar 6), (tVar 4), (tVar 4)]] : List (List TE))) (ss := ([⟨.centre, p, [z, l, b], []⟩, ⟨.centre, p, [m, c, c], []⟩] : List Stp)) rfl h14 u14 (.cons ⟨(.cons pure_c (.cons (pure_v rfl) (.cons (pure_v rfl) (.cons (pure_v rfl) (.cons (pure_v rfl) .nil))))), Nat.le_of_ble_eq_true rfl⟩ (.cons ⟨(.cons pure_c (.cons (pure_v rfl) (.cons (pure_v rfl) (.cons (pure_v rfl) (.cons (pure_v rfl) .nil))))), Nat.le_of_ble_eq_true rfl⟩ .nil)) (Nat.le_trans (Nat.add_le_add_right q14 _) (Nat.le_of_ble_eq_true rfl)) fun G15 D15 us15 s15 n15 h15 u15 => ?_
    have a15 := a14.trans s15
    have m15 := none_up a14 n15
    rw [e14, e13, e12, e11, e10, e9, e8, e7, e6, e5, e4, e3, e2, e1] at u15
    exact go D15 us15 G15 a15 m15 h15 u15
end
abbrev sGood : Stmt := K2P.top 72
def goodL (p a b c l m z : Str) : List Stp := [⟨.foot, p, [c, a, b], []⟩, ⟨.mirror, p, [a, b, c], []⟩, ⟨.second, p, [a, b, c], []⟩, ⟨.meet, p, [a, b, c, a], []⟩, ⟨.centre, p, [a, b, c], []⟩, ⟨.centre, p, [a, c, m], []⟩, ⟨.part, p, [a, a], [1, 2]⟩, ⟨.shift, p, [a, b, b], []⟩, ⟨.turn, p, [c, a, z], []⟩, ⟨.over, p, [a, a], []⟩, ⟨.foot, p, [a, a, b], []⟩, ⟨.mirror, p, [z, z, c], []⟩, ⟨.second, p, [b, z, a], []⟩, ⟨.shift, p, [m, m, m], []⟩, ⟨.part, p, [z, a], [-7, 3]⟩, ⟨.meet, p, [a, c, m, a], []⟩, ⟨.part, p, [l, l], [0, 5]⟩]
def spGood : Sp := fun vs H Q _ => ∃ (p a b c l m z : Str) (ns : List Str) (A : Addr), vs = [.str p, .ref A] ∧ H A = some (.lst ((a :: b :: c :: l :: m :: z :: ns).map V.str)) ∧ ∀ (D : Addr) (us : List V) (G : Hp), Same H G → H D = none → G D = some (.lst us) → Paired (StepAt G) us (goodL p a b c l m z) → Q (.ref D) G
section
variable {P : Program} {w : World} {K : PySem.W.Frag} {mg : Str → Option Value} {base : Heap}
theorem scGood : FnScope ["p", "names", "a", "b", "c", "l", "m", "z", "found"] ["p", "names"] (defScope sGood) := ⟨rfl, rfl, rfl, by decide +kernel, rfl, by decide +kernel, by decide +kernel⟩
theorem ok_goodL {f : Addr} {fd : FuncData} (F : Fun K "_law_possible" "_law_possible" sGood f fd) : FnOk P w K mg base CX0 1 f fd ["p", "names"] spGood := by
  refine F.ok scGood (fun vs H Q E h => ?_) (fun cdv A outer s H vs Q E hr h => ?_)
  · obtain ⟨p, a, b, c, l, m, z, ns, A, rfl, _⟩ := h
    rfl
  · obtain ⟨p, a, b, c, l, m, z, ns, A, rfl, hA, go⟩ := h
    refine ⟨_, (pss_cons (ps_asg (pe_slice sl_list (pv 1) po_none (po_some pe_int)) (pg_lst rfl (pgs_cons (pg_name (i := 2) scGood.nd rfl (Or.inl rfl)) (pgs_cons (pg_name (i := 3) scGood.nd rfl (Or.inl rfl)) (pgs_cons (pg_name (i := 4) scGood.nd rfl (Or.inl rfl)) (pgs_cons (pg_name (i := 5) scGood.nd rfl (Or.inl rfl)) (pgs_cons (pg_name (i := 6) scGood.nd rfl (Or.inl rfl)) (pgs_cons (pg_name (i := 7) scGood.nd rfl (Or.inl rfl)) pgs_nil))))))))
      (pss_cons (ps_set (i := 8) scGood.nd rfl (Or.inl rfl) (pe_lst (pa_cons (pe_tup (pa_cons pe_str (pa_cons (pv 0) (pa_cons (pv 4) (pa_cons (pv 2) (pa_cons (pv 3) pa_nil)))))) (pa_cons (pe_tup (pa_cons pe_str (pa_cons (pv 0) (pa_cons (pv 2) (pa_cons (pv 3) (pa_cons (pv 4) pa_nil)))))) pa_nil))))
      (pss_cons (ps_set (i := 8) scGood.nd rfl (Or.inl rfl) (pe_op op_cat (pv 8) (pe_lst (pa_cons (pe_tup (pa_cons pe_str (pa_cons (pv 0) (pa_cons (pv 2) (pa_cons (pv 3) (pa_cons (pv 4) pa_nil)))))) (pa_cons (pe_tup (pa_cons pe_str (pa_cons (pv 0) (pa_cons (pv 2) (pa_cons (pv 3) (pa_cons (pv 4) (pa_cons (pv 2) pa_nil))))))) pa_nil)))))
      (pss_cons (ps_set (i := 8) scGood.nd rfl (Or.inl rfl) (pe_op op_cat (pv 8) (pe_lst (pa_cons (pe_tup (pa_cons pe_str (pa_cons (pv 0) (pa_cons (pv 2) (pa_cons (pv 3) (pa_cons (pv 4) pa_nil)))))) (pa_cons (pe_tup (pa_cons pe_str (pa_cons (pv 0) (pa_cons (pv 2) (pa_cons (pv 4) (pa_cons (pv 6) pa_nil)))))) pa_nil)))))
      (pss_cons (ps_set (i := 8) scGood.nd rfl (Or.inl rfl) (pe_op op_cat (pv 8) (pe_lst (pa_cons (pe_tup (pa_cons pe_str (pa_cons (pv 0) (pa_cons (pv 2) (pa_cons (pv 2) (pa_cons pe_int (pa_cons pe_int pa_nil))))))) (pa_cons (pe_tup (pa_cons pe_str (pa_cons (pv 0) (pa_cons (pv 2) (pa_cons (pv 3) (pa_cons (pv 3) pa_nil)))))) pa_nil)))))
      (pss_cons (ps_set (i := 8) scGood.nd rfl (Or.inl rfl) (pe_op op_cat (pv 8) (pe_lst (pa_cons (pe_tup (pa_cons pe_str (pa_cons (pv 0) (pa_cons (pv 4) (pa_cons (pv 2) (pa_cons (pv 7) pa_nil)))))) (pa_cons (pe_tup (pa_cons pe_str (pa_cons (pv 0) (pa_cons (pv 2) (pa_cons (pv 2) pa_nil))))) pa_nil)))))
      (pss_cons (ps_set (i := 8) scGood.nd rfl (Or.inl rfl) (pe_op op_cat (pv 8) (pe_lst (pa_cons (pe_tup (pa_cons pe_str (pa_cons (pv 0) (pa_cons (pv 2) (pa_cons (pv 2) (pa_cons (pv 3) pa_nil)))))) (pa_cons (pe_tup (pa_cons pe_str (pa_cons (pv 0) (pa_cons (pv 7) (pa_cons (pv 7) (pa_cons (pv 4) pa_nil)))))) pa_nil)))))
      (pss_cons (ps_set (i := 8) scGood.nd rfl (Or.inl rfl) (pe_op op_cat (pv 8) (pe_lst (pa_cons (pe_tup (pa_cons pe_str (pa_cons (pv 0) (pa_cons (pv 3) (pa_cons (pv 7) (pa_cons (pv 2) pa_nil)))))) (pa_cons (pe_tup (pa_cons pe_str (pa_cons (pv 0) (pa_cons (pv 6) (pa_cons (pv 6) (pa_cons (pv 6) pa_nil)))))) pa_nil)))))
      (pss_cons (ps_set (i := 8) scGood.nd rfl (Or.inl rfl) (pe_op op_cat (pv 8) (pe_lst (pa_cons (pe_tup (pa_cons pe_str (pa_cons (pv 0) (pa_cons (pv 7) (pa_cons (pv 2) (pa_cons (pe_un un_neg pe_int) (pa_cons pe_int pa_nil))))))) (pa_cons (pe_tup (pa_cons pe_str (pa_cons (pv 0) (pa_cons (pv 2) (pa_cons (pv 4) (pa_cons (pv 6) (pa_cons (pv 2) pa_nil))))))) pa_nil)))))
      (pss_one (ps_ret (pe_op op_cat (pv 8) (pe_lst (pa_cons (pe_tup (pa_cons pe_str (pa_cons (pv 0) (pa_cons (pv 5) (pa_cons (pv 5) (pa_cons pe_int (pa_cons pe_int pa_nil))))))) pa_nil)))))))))))))), ?_⟩
    refine ⟨_, rfl, _, rfl, A, _, rfl, SqL.of hA, fun D0 nD0 => ?_⟩
    have hc : cutV ((a :: b :: c :: l :: m :: z :: ns).map V.str) none (some 6) = [.str a, .str b, .str c, .str l, .str m, .str z] := cut_six _ _ _ _ _ _ _
    rw [hc]
    have s0 := same_new (o := .lst [.str a, .str b, .str c, .str l, .str m, .str z]) nD0
    have h0 : upd H D0 (.lst [.str a, .str b, .str c, .str l, .str m, .str z]) D0 = some (.lst [.str a, .str b, .str c, .str l, .str m, .str z]) := upd_same
    generalize upd H D0 (.lst [.str a, .str b, .str c, .str l, .str m, .str z]) = G0 at s0 h0 ⊢
    refine ⟨D0, _, rfl, SqL.of h0, rfl, _, _, rfl, _, _, rfl, _, _, rfl, _, _, rfl, _, _, rfl, _, _, rfl, rfl, ?_⟩
    dsimp only
    refine st_re (σ2 := [some (.str p), some (.ref A), some (.str a), some (.str b), some (.str c), some (.str l), some (.str m), some (.str z), none]) rfl ?_
    try dsimp only
    refine st_slst (tss := ([[(tC (.str "foot")), (tVar 0), (tVar 4), (tVar 2), (tVar 3)], [(tC (.str "mirror")), (tVar 0), (tVar 2), (tVar 3), (tVar 4)]] : List (List TE))) (ss := ([⟨.foot, p, [c, a, b], []⟩, ⟨.mirror, p, [a, b, c], []⟩] : List Stp)) (.cons ⟨(.cons pure_c (.cons (pure_v rfl) (.cons (pure_v rfl) (.cons (pure_v rfl) (.cons (pure_v rfl) .nil))))), Nat.le_of_ble_eq_true rfl⟩ (.cons ⟨(.cons pure_c (.cons (pure_v rfl) (.cons (pure_v rfl) (.cons (pure_v rfl) (.cons (pure_v rfl) .nil))))), Nat.le_of_ble_eq_true rfl⟩ .nil)) (Nat.le_of_ble_eq_true rfl) fun G1 D1 us1 s1 n1 h1 u1 => ?_
    have a1 := s0.trans s1
    have m1 := none_up s0 n1
    obtain ⟨L1, e1⟩ : ∃ L, L = ([⟨.foot, p, [c, a, b], []⟩, ⟨.mirror, p, [a, b, c], []⟩] : List Stp) := ⟨_, rfl⟩
    rw [← e1] at u1
    have q1 : L1.length ≤ 2 := by rw [e1]; exact Nat.le_of_ble_eq_true rfl
    try dsimp only [List.set]
    try dsimp only
    refine st_scat (tss := ([[(tC (.str "second")), (tVar 0), (tVar 2), (tVar 3), (tVar 4)], [(tC (.str "meet")), (tVar 0), (tVar 2), (tVar 3), (tVar 4), (tVar 2)]] : List (List TE))) (ss := ([⟨.second, p, [a, b, c], []⟩, ⟨.meet, p, [a, b, c, a], []⟩] : List Stp)) rfl h1 u1 (.cons ⟨(.cons pure_c (.cons (pure_v rfl) (.cons (pure_v rfl) (.cons (pure_v rfl) (.cons (pure_v rfl) .nil))))), Nat.le_of_ble_eq_true rfl⟩ (.cons ⟨(.cons pure_c (.cons (pure_v rfl) (.cons (pure_v rfl) (.cons (pure_v rfl) (.cons (pure_v rfl) (.cons (pure_v rfl) .nil)))))), Nat.le_of_ble_eq_true rfl⟩ .nil)) (Nat.le_trans (Nat.add_le_add_right q1 _) (Nat.le_of_ble_eq_true rfl)) fun G2 D2 us2 s2 n2 h2 u2 => ?_
    have a2 := a1.trans s2
    have m2 := none_up a1 n2
    obtain ⟨L2, e2⟩ : ∃ L, L = L1 ++ ([⟨.second, p, [a, b, c], []⟩, ⟨.meet, p, [a, b, c, a], []⟩] : List Stp) := ⟨_, rfl⟩
    rw [← e2] at u2
    have q2 : L2.length ≤ 4 := by rw [e2, List.length_append]; simp only [List.length_cons, List.length_nil]; omega
    try dsimp only [List.set]
    try dsimp only
    refine st_scat (tss := ([[(tC (.str "centre")), (tVar 0), (tVar 2), (tVar 3), (tVar 4)], [(tC (.str "centre")), (tVar 0), (tVar 2), (tVar 4), (tVar 6)]] : List (List TE))) (ss := ([⟨.centre, p, [a, b, c], []⟩, ⟨.centre, p, [a, c, m], []⟩] : List Stp)) rfl h2 u2 (.cons ⟨(.cons pure_c (.cons (pure_v rfl) (.cons (pure_v rfl) (.cons (pure_v rfl) (.cons (pure_v rfl) .nil))))), Nat.le_of_ble_eq_true rfl⟩ (.cons ⟨(.cons pure_c (.cons (pure_v rfl) (.cons (pure_v rfl) (.cons (pure_v rfl) (.cons (pure_v rfl) .nil))))), Nat.le_of_ble_eq_true rfl⟩ .nil)) (Nat.le_trans (Nat.add_le_add_right q2 _) (Nat.le_of_ble_eq_true rfl)) fun G3 D3 us3 s3 n3 h3 u3 => ?_
    have a3 := a2.trans s3
    have m3 := none_up a2 n3
    obtain ⟨L3, e3⟩ : ∃ L, L = L2 ++ ([⟨.centre, p, [a, b, c], []⟩, ⟨.centre, p, [a, c, m], []⟩] : List Stp) := ⟨_, rfl⟩
    rw [← e3] at u3
    have q3 : L3.length ≤ 6 := by rw [e3, List.length_append]; simp only [List.length_cons, List.length_nil]; omega
    try dsimp only [List.set]
    try dsimp only
    refine st_scat (tss := ([[(tC (.str "part")), (tVar 0), (tVar 2), (tVar 2), (tC (.int 1)), (tC (.int 2))], [(tC (.str "shift")), (tVar 0), (tVar 2), (tVar 3), (tVar 3)]] : List (List TE))) (ss := ([⟨.part, p, [a, a], [1, 2]⟩, ⟨.shift, p, [a, b, b], []⟩] : List Stp)) rfl h3 u3 (.cons ⟨(.cons pure_c (.cons (pure_v rfl) (.cons (pure_v rfl) (.cons (pure_v rfl) (.cons pure_c (.cons pure_c .nil)))))), Nat.le_of_ble_eq_true rfl⟩ (.cons ⟨(.cons pure_c (.cons (pure_v rfl) (.cons (pure_v rfl) (.cons (pure_v rfl) (.cons (pure_v rfl) .nil))))), Nat.le_of_ble_eq_true rfl⟩ .nil)) (Nat.le_trans (Nat.add_le_add_right q3 _) (Nat.le_of_ble_eq_true rfl)) fun G4 D4 us4 s4 n4 h4 u4 => ?_
    have a4 := a3.trans s4
    have m4 := none_up a3 n4
    obtain ⟨L4, e4⟩ : ∃ L, L = L3 ++ ([⟨.part, p, [a, a], [1, 2]⟩, ⟨.shift, p, [a, b, b], []⟩] : List Stp) := ⟨_, rfl⟩
    rw [← e4] at u4
    have q4 : L4.length ≤ 8 := by rw [e4, List.length_append]; simp only [List.length_cons, List.length_nil]; omega
    try dsimp only [List.set]
    try dsimp only
    refine st_scat (tss := ([[(tC (.str "turn")), (tVar 0), (tVar 4), (tVar 2), (tVar 7)], [(tC (.str "over")), (tVar 0), (tVar 2), (tVar 2)]] : List (List TE))) (ss := ([⟨.turn, p, [c, a, z], []⟩, ⟨.over, p, [a, a], []⟩] : List Stp)) rfl h4 u4 (.cons ⟨(.cons pure_c (.cons (pure_v rfl) (.cons (pure_v rfl) (.cons (pure_v rfl) (.cons (pure_v rfl) .nil))))), Nat.le_of_ble_eq_true rfl⟩ (.cons ⟨(.cons pure_c (.cons (pure_v rfl) (.cons (pure_v rfl) (.cons (pure_v rfl) .nil)))), Nat.le_of_ble_eq_true rfl⟩ .nil)) (Nat.le_trans (Nat.add_le_add_right q4 _) (Nat.le_of_ble_eq_true rfl)) fun G5 D5 us5 s5 n5 h5 u5 => ?_
    have a5 := a4.trans s5
    have m5 := none_up a4 n5
    obtain ⟨L5, e5⟩ : ∃ L, L = L4 ++ ([⟨.turn, p, [c, a, z], []⟩, ⟨.over, p, [a, a], []⟩] : List Stp) := ⟨_, rfl⟩
    rw [← e5] at u5
    have q5 : L5.length ≤ 10 := by rw [e5, List.length_append]; simp only [List.length_cons, List.length_nil]; omega
    try dsimp only [List.set]
    try dsimp only
    refine st_scat (tss := ([[(tC (.str "foot")), (tVar 0), (tVar 2), (tVar 2), (tVar 3)], [(tC (.str "mirror")), (tVar 0), (tVar 7), (tVar 7), (tVar 4)]] : List (List TE))) (ss := ([⟨.foot, p, [a, a, b], []⟩, ⟨.mirror, p, [z, z, c], []⟩] : List Stp)) rfl h5 u5 (.cons ⟨(.cons pure_c (.cons (pure_v rfl) (.cons (pure_v rfl) (.cons (pure_v rfl) (.cons (pure_v rfl) .nil))))), Nat.le_of_ble_eq_true rfl⟩ (.cons ⟨(.cons pure_c (.cons (pure_v rfl) (.cons (pure_v rfl) (.cons (pure_v rfl) (.cons (pure_v rfl) .nil))))), Nat.le_of_ble_eq_true rfl⟩ .nil)) (Nat.le_trans (Nat.add_le_add_right q5 _) (Nat.le_of_ble_eq_true rfl)) fun G6 D6 us6 s6 n6 h6 u6 => ?_
    have a6 := a5.trans s6
    have m6 := none_up a5 n6
    obtain ⟨L6, e6⟩ : ∃ L, L = L5 ++ ([⟨.foot, p, [a, a, b], []⟩, ⟨.mirror, p, [z, z, c], []⟩] : List Stp) := ⟨_, rfl⟩
    rw [← e6] at u6
    have q6 : L6.length ≤ 12 := by rw [e6, List.length_append]; simp only [List.length_cons, List.length_nil]; omega
    try dsimp only [List.set]
    try dsimp only
    refine st_scat (tss := ([[(tC (.str "second")), (tVar 0), (tVar 3), (tVar 7), (tVar 2)], [(tC (.str "shift")), (tVar 0), (tVar 6), (tVar 6), (tVar 6)]] : List (List TE))) (ss := ([⟨.second, p, [b, z, a], []⟩, ⟨.shift, p, [m, m, m], []⟩] : List Stp)) rfl h6 u6 (.cons ⟨(.cons pure_c (.cons (pure_v rfl) (.cons (pure_v rfl) (.cons (pure_v rfl) (.cons (pure_v rfl) .nil))))), Nat.le_of_ble_eq_true rfl⟩ (.cons ⟨(.cons pure_c (.cons (pure_v rfl) (.cons (pure_v rfl) (.cons (pure_v rfl) (.cons (pure_v rfl) .nil))))), Nat.le_of_ble_eq_true rfl⟩ .nil)) (Nat.le_trans (Nat.add_le_add_right q6 _) (Nat.le_of_ble_eq_true rfl)) fun G7 D7 us7 s7 n7 h7 u7 => ?_
    have a7 := a6.trans s7
    have m7 := none_up a6 n7
    obtain ⟨L7, e7⟩ : ∃ L, L = L6 ++ ([⟨.second, p, [b, z, a], []⟩, ⟨.shift, p, [m, m, m], []⟩] : List Stp) := ⟨_, rfl⟩
    rw [← e7] at u7
    have q7 : L7.length ≤ 14 := by rw [e7, List.length_append]; simp only [List.length_cons, List.length_nil]; omega
    try dsimp only [List.set]
    try dsimp only
    refine st_scat (tss := ([[(tC (.str "part")), (tVar 0), (tVar 7), (tVar 2), (tUn (rU fun i => .int (-i)) (tC (.int 7))), (tC (.int 3))], [(tC (.str "meet")), (tVar 0), (tVar 2), (tVar 4), (tVar 6), (tVar 2)]] : List (List TE))) (ss := ([⟨.part, p, [z, a], [-7, 3]⟩, ⟨.meet, p, [a, c, m, a], []⟩] : List Stp)) rfl h7 u7 (.cons ⟨(.cons pure_c (.cons (pure_v rfl) (.cons (pure_v rfl) (.cons (pure_v rfl) (.cons (pure_neg pure_c) (.cons pure_c .nil)))))), Nat.le_of_ble_eq_true rfl⟩ (.cons ⟨(.cons pure_c (.cons (pure_v rfl) (.cons (pure_v rfl) (.cons (pure_v rfl) (.cons (pure_v rfl) (.cons (pure_v rfl) .nil)))))), Nat.le_of_ble_eq_true rfl⟩ .nil)) (Nat.le_trans (Nat.add_le_add_right q7 _) (Nat.le_of_ble_eq_true rfl)) fun G8 D8 us8 s8 n8 h8 u8 => ?_
    have a8 := a7.trans s8
    have m8 := none_up a7 n8
    obtain ⟨L8, e8⟩ : ∃ L, L = L7 ++ ([⟨.part, p, [z, a], [-7, 3]⟩, ⟨.meet, p, [a, c, m, a], []⟩] : List Stp) := ⟨_, rfl⟩
    rw [← e8] at u8
    have q8 : L8.length ≤ 16 := by rw [e8, List.length_append]; simp only [List.length_cons, List.length_nil]; omega
    try dsimp only [List.set]
    try dsimp only
    refine st_scatr (tss := ([[(tC (.str "part")), (tVar 0), (tVar 5), (tVar 5), (tC (.int 0)), (tC (.int 5))]] : List (List TE))) (ss := ([⟨.part, p, [l, l], [0, 5]⟩] : List Stp)) rfl h8 u8 (.cons ⟨(.cons pure_c (.cons (pure_v rfl) (.cons (pure_v rfl) (.cons (pure_v rfl) (.cons pure_c (.cons pure_c .nil)))))), Nat.le_of_ble_eq_true rfl⟩ .nil) (Nat.le_trans (Nat.add_le_add_right q8 _) (Nat.le_of_ble_eq_true rfl)) fun G9 D9 us9 s9 n9 h9 u9 => ?_
    have a9 := a8.trans s9
    have m9 := none_up a8 n9
    rw [e8, e7, e6, e5, e4, e3, e2, e1] at u9
    exact go D9 us9 G9 a9 m9 h9 u9
end
end CN

set_option Elab.async false
set_option linter.all false
set_option maxRecDepth 100000
set_option maxHeartbeats 4000000
set_option autoImplicit false
set_option pp.maxSteps 300
/-! The law's plans. -/
namespace CN
open PySem L2 K1D K2P
open K4 (isNm)
abbrev sBase : Stmt := K2P.top 70
def rLenQ (K : PySem.W.Frag) : List V → Hp → VK → Prop := fun xs H Q => ∃ p ys, xs = [.ref p] ∧ (SqL K H p ys ∨ SqT K H p ys) ∧ Q (.int ys.length) H
theorem call_lenQ {X : Cx} : CallR X (.builtin "len") (rLenQ X.K) := call_len_seq
def tPop (K : PySem.W.Frag) (i : Nat) : TE := tBM K "list" rPopAt (tVar i) (tCons (tCall spDraw [] E0 (tCons (tVar 0) (tCons (tCB (rLenQ K) (tCons (tVar i) tNil)) tNil))) tNil)
theorem StepAt.bt {p l : Addr} {H G : Hp} {v : V} {s : Stp} (h : StepAt H v s) (b : Bt p l H G) (src : SrcL H p l) : StepAt G v s := h.chg b.chg src.loose
theorem StepAt.setL {H : Hp} {v : V} {s : Stp} {f : Addr} {us xs : List V} (h : StepAt H v s) (hf : H f = some (.lst us)) : StepAt (upd H f (.lst xs)) v s := by
  obtain ⟨a, e, q⟩ := h
  exact ⟨a, e, (upd_ne fun z => by rw [z, hf] at q; cases q).trans q⟩
theorem pair_erase {α β : Type} {F : α → β → Prop} : ∀ {l : List α} {m : List β}, Paired F l m → ∀ k, Paired F (l.eraseIdx k) (m.eraseIdx k)
  | _, _, .nil, k => by exact .nil
  | _, _, .cons a r, 0 => r
  | _, _, .cons a r, k + 1 => .cons a (pair_erase r k)
theorem perm_erase {α : Type} {s : α} : ∀ {R : List α} {k : Nat}, R[k]? = some s → (s :: R.eraseIdx k).Perm R
  | [], k, h => by cases k <;> cases h
  | r :: R, 0, h => by cases h; exact List.Perm.refl _
  | r :: R, k + 1, h => (List.Perm.swap r s _).trans ((perm_erase (R := R) (k := k) h).cons r)
theorem perm_pop {A R O : List Stp} {k : Nat} {s : Stp} (h : (A ++ R).Perm O) (e : R[k]? = some s) : ((A ++ [s]) ++ R.eraseIdx k).Perm O := by
  refine List.Perm.trans ?_ h
  rw [List.append_assoc]
  exact List.Perm.append_left A (perm_erase e)
/-- [steps.pop(draw) for k in range(3)] -/
theorem lc_pops {K : PySem.W.Frag} {σ : L2.St} {H0 H : Hp} {p l f D : Addr} {i j : Nat} {us : List V} {O : List Stp} {Qd : Hp → Prop} (src : SrcL H p l) (b0 : Bt p l H0 H) (nf : H0 f = none) (fp : f ≠ p) (fl : f ≠ l) (hf : H f = some (.lst us)) (hu : Paired (StepAt H) us O) (lO : O.length = 3) (nD : H D = none)
    (w0 : ∀ x, ((wipe σ [j]).set j (some x))[0]? = some (some (.ref p))) (w1 : ∀ x, ((wipe σ [j]).set j (some x))[i]? = some (some (.ref f))) (w3 : ∀ x, wipe ((wipe σ [j]).set j (some x)) [j] = wipe σ [j])
    (done : ∀ G us2 ss2, SrcL G p l → Bt p l H0 G → G D = some (.lst us2) → Paired (StepAt G) us2 ss2 → ss2.Perm O → (∀ b x, H b = some x → b ≠ p → b ≠ l → b ≠ f → G b = some x) → Qd G) :
    ∃ W : Nat → Nat → Hp → Prop, (∃ m, W 0 m (upd H D (.lst []))) ∧ ∀ k m H, W k m H → ((Itr 0 3).stop k H ∧ Qd H) ∨ ((Itr 0 3).go k H ∧ ∃ Nx : Hp → Prop, (∀ H', Nx H' → ∃ m', m' < m ∧ W (k + 1) m' H') ∧ ∀ v H', (Itr 0 3).yld k H v H' → gName j v (wipe σ [j]) H' fun σ2 H2 => wipe σ2 [j] = wipe σ [j] ∧ tYes σ2 H2 fun b H3 =>
      if b = true then (tPop K i) σ2 H3 fun y H4 => ∃ acc, H4 D = some (.lst acc) ∧ acc.length < sizeLine ∧ Nx (upd H4 D (.lst (acc ++ [y]))) else Nx H3) := by
  have Dp := src.ne nD
  have Df : D ≠ f := fun z => by rw [z, hf] at nD; cases nD
  have nDH : H0 D = none := b0.none nD Dp.1 Dp.2
  refine lc_it (walk_range (lo := 0) (n := 3)) (fun (k : Nat) (G : Hp) => ∃ (ua ur : List V) (A R : List Stp), SrcL G p l ∧ Bt p l H0 G ∧ (∀ b x, H b = some x → b ≠ p → b ≠ l → b ≠ f → G b = some x) ∧ G D = some (.lst ua) ∧ Paired (StepAt G) ua A ∧ G f = some (.lst ur) ∧ Paired (StepAt G) ur R ∧ (A ++ R).Perm O ∧ A.length = k)
    ⟨[], us, [], O, src.set Dp.1 Dp.2, b0.set nDH, fun b x q _ _ _ => (upd_ne (ne_of_none q nD)).trans q, upd_same, .nil, (upd_ne (Ne.symm Df)).trans hf, pair_imp (fun _ _ q => q.up (same_new nD)) hu, List.Perm.refl _, rfl⟩ (fun _ _ _ _ => trivial) (fun k x G G' hk ⟨ua, ur, A, R, sG, bG, fr, hD, hA, hF, hR, pm, la⟩ ⟨e, ev⟩ => ?_) (fun G ⟨ua, ur, A, R, sG, bG, fr, hD, hA, hF, hR, pm, la⟩ => ?_)
  · subst e ev
    have lr : R.length = 3 - k := by
      have := pm.length_eq
      rw [List.length_append, lO, la] at this
      omega
    have lur : ur.length = R.length := Paired.length hR
    refine ⟨w3 _, _, w1 _, .inl ⟨rfl, ur, SqL.of hF⟩, _, w0 _, _, w1 _, f, ur, rfl, .inl (SqL.of hF), p, l, _, rfl, sG, by omega, by rw [lur, lr]; omega, fun z G2 z0 z1 s2 b2 => ?_⟩
    obtain ⟨n, rfl⟩ : ∃ n : Nat, z = n := ⟨z.toNat, by omega⟩
    have ln : n < ur.length := by omega
    have hF2 : G2 f = some (.lst ur) := b2 _ _ fp fl hF
    have hD2 : G2 D = some (.lst ua) := b2 _ _ Dp.1 Dp.2 hD
    have hR2 := pair_imp (fun _ _ q => StepAt.bt q b2 sG) hR
    have hA2 := pair_imp (fun _ _ q => StepAt.bt q b2 sG) hA
    have hs : R[n]? = some (R[n]'(by omega)) := List.getElem?_eq_getElem (by omega)
    have hy := List.getElem?_eq_getElem ln
    have st := pair_get hR2 hy hs
    refine ⟨f, ur, _, n, ur[n], rfl, rfl, hF2, by omega, by omega, ?_, hy, ?_⟩
    · unfold seqIndex?
      simp
      omega
    have hA3 := pair_imp (fun _ _ q => StepAt.setL (xs := ur.eraseIdx n) q hF2) hA2
    have hR3 := pair_imp (fun _ _ q => StepAt.setL (xs := ur.eraseIdx n) q hF2) (pair_erase hR2 n)
    have st3 := StepAt.setL (xs := ur.eraseIdx n) st hF2
    have hF3 : upd G2 f (.lst (ur.eraseIdx n)) f = some (.lst (ur.eraseIdx n)) := upd_same
    have hD3 : upd G2 f (.lst (ur.eraseIdx n)) D = some (.lst ua) := (upd_ne Df).trans hD2
    have s3 : SrcL (upd G2 f (.lst (ur.eraseIdx n))) p l := s2.set fp fl
    have b3 : Bt p l H0 (upd G2 f (.lst (ur.eraseIdx n))) := (bG.trans b2).set nf
    have fr3 : ∀ b x, H b = some x → b ≠ p → b ≠ l → b ≠ f → upd G2 f (.lst (ur.eraseIdx n)) b = some x := fun b x q n1 n2 n3 => (upd_ne n3).trans (b2 _ _ n1 n2 (fr b x q n1 n2 n3))
    generalize upd G2 f (.lst (ur.eraseIdx n)) = G3 at hA3 hR3 st3 hF3 hD3 s3 b3 fr3
    have lua : ua.length = A.length := Paired.length hA
    refine ⟨ua, hD3, by rw [lua, la, sizeLine_eq]; omega, ua ++ [ur[n]], _, A ++ [R[n]'(by omega)], R.eraseIdx n, s3.set Dp.1 Dp.2, b3.set nDH, fun b x q n1 n2 n3 => (upd_ne (ne_of_none q nD)).trans (fr3 b x q n1 n2 n3), upd_same, pair_snoc (StepAt.setL st3 hD3) (pair_imp (fun _ _ q => StepAt.setL q hD3) hA3), (upd_ne (Ne.symm Df)).trans hF3, pair_imp (fun _ _ q => StepAt.setL q hD3) hR3, perm_pop pm hs, by rw [List.length_append, la]; rfl⟩
  · have lr : R = [] := by
      have := pm.length_eq
      rw [List.length_append, lO, la] at this
      exact List.length_eq_zero_iff.mp (by omega)
    rw [lr, List.append_nil] at pm
    exact done G ua A sG bG hD hA pm fr
def frS (x : Str) : Stp := ⟨.free, x, [], []⟩
structure PlanOk (a b c l m z : Str) (ss : List Stp) : Prop where
  ex : ∃ (n d e : Int) (P1 P2 : List Stp), -5 ≤ n ∧ n ≤ 5 ∧ 1 ≤ d ∧ d ≤ 4 ∧ 1 ≤ e ∧ e ≤ 3 ∧ P1.Perm [frS a, frS b, frS c] ∧ P2.Perm [⟨.part, l, [a, b], [n, d]⟩, ⟨.shift, m, [c, a, b], []⟩, ⟨.part, z, [a, b], [0, e]⟩] ∧ ss = P1 ++ P2
def spBase : Sp := fun vs H Q _ => ∃ (p q A : Addr) (a b c l m z : Str) (ns : List Str), vs = [.ref p, .ref A] ∧ SrcL H p q ∧ H A = some (.lst ((a :: b :: c :: l :: m :: z :: ns).map V.str)) ∧
  ∀ (D : Addr) (us : List V) (ss : List Stp) (G : Hp), SrcL G p q → Bt p q H G → H D = none → G D = some (.lst us) → Paired (StepAt G) us ss → PlanOk a b c l m z ss → Q (.ref D) G
section
variable {P : Program} {w : World} {K : PySem.W.Frag} {mg : Str → Option Value} {base : Heap} {fD : Addr} {dD : FuncData}
theorem scBase : FnScope ["src", "names", "a", "b", "c", "l", "m", "z", "free", "plan", "rest", "one", "k"] ["src", "names"] (defScope sBase) := ⟨rfl, rfl, rfl, by decide +kernel, rfl, by decide +kernel, by decide +kernel⟩
theorem ok_base {f : Addr} {fd : FuncData} (F : Fun K "_law_base" "_law_base" sBase f fd) (T : ListTxt mg) (UD : CallT P w K mg base CX0 1 "_law_draw" ["src", "many"] spDraw fD dD) : FnOk P w K mg base CX0 2 f fd ["src", "names"] spBase := by
  refine F.ok scBase (fun vs H Q E h => ?_) (fun cdv Ar outer s H vs Q E hr h => ?_)
  · obtain ⟨p, q, A, a, b, c, l, m, z, ns, rfl, _⟩ := h
    rfl
  · obtain ⟨p, q, A, a, b, c, l, m, z, ns, rfl, src, hA, go⟩ := h
    refine ⟨_, (pss_cons (ps_asg (pe_slice sl_list (pv 1) po_none (po_some pe_int)) (pg_lst rfl (pgs_cons (pg_name (i := 2) scBase.nd rfl (Or.inl rfl)) (pgs_cons (pg_name (i := 3) scBase.nd rfl (Or.inl rfl)) (pgs_cons (pg_name (i := 4) scBase.nd rfl (Or.inl rfl)) (pgs_cons (pg_name (i := 5) scBase.nd rfl (Or.inl rfl)) (pgs_cons (pg_name (i := 6) scBase.nd rfl (Or.inl rfl)) (pgs_cons (pg_name (i := 7) scBase.nd rfl (Or.inl rfl)) pgs_nil))))))))
      (pss_cons (ps_set (i := 8) scBase.nd rfl (Or.inr rfl) (pe_lc (own := [("one", 11)]) (g := (gName 11)) (tt := tYes) (te := (tTup (tCons (tC (.str "free")) (tCons (tVar 11) tNil)))) rfl scBase.nd (pi_tup (pe_tup (pa_cons (pv 2) (pa_cons (pv 3) (pa_cons (pv 4) pa_nil))))) (blkOk_by (own := [("one", 11)]) (N := ["src", "names", "a", "b", "c", "l", "m", "z", "free", "plan", "rest", "one", "k"]) (sc := defScope sBase) (by decide +kernel)) (fun _ _ _ _ _ => (pg_name (i := 11) scBase.nd rfl (Or.inl rfl))) (fun _ _ _ _ _ => pts_nil) (fun _ _ _ _ _ => (pe_tup (pa_cons pe_str (pa_cons (pv 11) pa_nil))))))
      (pss_cons (ps_setLc (i := 9) (own := [("k", 12)]) (g := (gName 12)) (tt := tYes) (te := (tPop K 8)) rfl scBase.nd rfl rfl (sw_true rfl rfl rfl (by decide +kernel)) (pi_range1 (by rfl) T.range (pa_cons pe_int pa_nil)) (blkOk_by (own := [("k", 12)]) (N := ["src", "names", "a", "b", "c", "l", "m", "z", "free", "plan", "rest", "one", "k"]) (sc := defScope sBase) (by decide +kernel)) (fun _ _ _ _ _ => (pg_name (i := 12) scBase.nd rfl (Or.inl rfl))) (fun _ _ _ _ _ => pts_nil) (fun _ _ _ _ _ => (pe_bm PySem.F.plainAttrs_list PySem.F.slot_list_pop PySem.F.type_list_pop mt_popAt (pv 8) (pa_cons (pe_call UD.ok (hr.mono (by decide)) rfl UD.g UD.k UD.b .nil pass0 (pa_cons (pv 0) (pa_cons (pe_callB call_lenQ (by rfl) T.len PySem.boot_len (pa_cons (pv 8) pa_nil)) pa_nil))) pa_nil))))
      (pss_cons (ps_set (i := 10) scBase.nd rfl (Or.inr rfl) (pe_lst (pa_cons (pe_tup (pa_cons pe_str (pa_cons (pv 5) (pa_cons (pv 2) (pa_cons (pv 3) (pa_cons (pe_op op_sub (pe_call UD.ok (hr.mono (by decide)) rfl UD.g UD.k UD.b .nil pass0 (pa_cons (pv 0) (pa_cons pe_int pa_nil))) pe_int) (pa_cons (pe_op op_add pe_int (pe_call UD.ok (hr.mono (by decide)) rfl UD.g UD.k UD.b .nil pass0 (pa_cons (pv 0) (pa_cons pe_int pa_nil)))) pa_nil))))))) (pa_cons (pe_tup (pa_cons pe_str (pa_cons (pv 6) (pa_cons (pv 4) (pa_cons (pv 2) (pa_cons (pv 3) pa_nil)))))) pa_nil))))
      (pss_cons (ps_expr (pe_bm PySem.F.plainAttrs_list PySem.F.slot_list_append PySem.F.type_list_append mt_append (pv 10) (pa_cons (pe_tup (pa_cons pe_str (pa_cons (pv 7) (pa_cons (pv 2) (pa_cons (pv 3) (pa_cons pe_int (pa_cons (pe_op op_add pe_int (pe_call UD.ok (hr.mono (by decide)) rfl UD.g UD.k UD.b .nil pass0 (pa_cons (pv 0) (pa_cons pe_int pa_nil)))) pa_nil))))))) pa_nil)))
      (pss_one (ps_ret (pe_op op_cat (pv 9) (pe_lc (own := [("k", 12)]) (g := (gName 12)) (tt := tYes) (te := (tPop K 10)) rfl scBase.nd (pi_range1 (by rfl) T.range (pa_cons pe_int pa_nil)) (blkOk_by (own := [("k", 12)]) (N := ["src", "names", "a", "b", "c", "l", "m", "z", "free", "plan", "rest", "one", "k"]) (sc := defScope sBase) (by decide +kernel)) (fun _ _ _ _ _ => (pg_name (i := 12) scBase.nd rfl (Or.inl rfl))) (fun _ _ _ _ _ => pts_nil) (fun _ _ _ _ _ => (pe_bm PySem.F.plainAttrs_list PySem.F.slot_list_pop PySem.F.type_list_pop mt_popAt (pv 10) (pa_cons (pe_call UD.ok (hr.mono (by decide)) rfl UD.g UD.k UD.b .nil pass0 (pa_cons (pv 0) (pa_cons (pe_callB call_lenQ (by rfl) T.len PySem.boot_len (pa_cons (pv 10) pa_nil)) pa_nil))) pa_nil)))))))))))), ?_⟩
    refine ⟨_, rfl, _, rfl, A, _, rfl, SqL.of hA, fun D0 nD0 => ?_⟩
    have hc : cutV ((a :: b :: c :: l :: m :: z :: ns).map V.str) none (some 6) = [.str a, .str b, .str c, .str l, .str m, .str z] := cut_six _ _ _ _ _ _ _
    rw [hc]
    have s0 := same_new (o := .lst [.str a, .str b, .str c, .str l, .str m, .str z]) nD0
    have h0 : upd H D0 (.lst [.str a, .str b, .str c, .str l, .str m, .str z]) D0 = some (.lst [.str a, .str b, .str c, .str l, .str m, .str z]) := upd_same
    have src0 := src.new (o := .lst [.str a, .str b, .str c, .str l, .str m, .str z]) nD0
    generalize upd H D0 (.lst [.str a, .str b, .str c, .str l, .str m, .str z]) = G0 at s0 h0 src0 ⊢
    refine ⟨D0, _, rfl, SqL.of h0, rfl, _, _, rfl, _, _, rfl, _, _, rfl, _, _, rfl, _, _, rfl, _, _, rfl, rfl, ?_⟩
    dsimp only
    refine st_re (σ2 := [some (.ref p), some (.ref A), some (.str a), some (.str b), some (.str c), some (.str l), some (.str m), some (.str z), none, none, none, none, none]) rfl ?_
    -- the free ones
    refine ⟨_, rfl, _, rfl, _, rfl, by show 3 ≤ sizeLine; decide, fun t nt => ⟨t, rfl, ⟨_, SqT.of upd_same⟩, fun f nf => ?_⟩⟩
    have ht : upd G0 t (.tup [.str a, .str b, .str c]) t = some (.tup [.str a, .str b, .str c]) := upd_same
    have s1 := s0.trans (same_new (o := .tup [.str a, .str b, .str c]) nt)
    have src1 := src0.new (o := .tup [.str a, .str b, .str c]) nt
    generalize upd G0 t (.tup [.str a, .str b, .str c]) = G1 at ht s1 src1 nf ⊢
    have nfH := none_up s1 nf
    refine lc_it (walk_tup (K := K) (a := t) (xs := [.str a, .str b, .str c])) (fun i G => Same G1 G ∧ ∃ us, G f = some (.lst us) ∧ Paired (StepAt G) us (([a, b, c].take i).map frS)) ⟨same_new nf, [], upd_same, .nil⟩ (fun i G _ h => SqT.of (h.1 _ _ ht)) (fun i y G G' hi ⟨sG, us, hF, hu⟩ ⟨e, hy⟩ => ?_) (fun G ⟨sG, us, hF, hu⟩ => ?_)
    · subst e
      have hy : ([a, b, c].map V.str)[i]? = some y := hy
      rw [List.getElem?_map] at hy
      obtain ⟨x, hx, rfl⟩ := Option.map_eq_some_iff.mp hy
      have il : i < 3 := (List.getElem?_eq_some_iff.mp hx).1
      have lu : us.length = i := by
        rw [Paired.length hu, List.length_map, List.length_take]
        show min i 3 = i
        omega
      refine ⟨rfl, _, rfl, by show 2 ≤ sizeLine; decide, fun tt ntt => ?_⟩
      have hF2 := same_new (o := .tup [.str "free", .str x]) ntt _ _ hF
      have hu2 := pair_imp (fun _ _ q => StepAt.up q (same_new (o := .tup [.str "free", .str x]) ntt)) hu
      have st : StepAt (upd G' tt (.tup [.str "free", .str x])) (.ref tt) (frS x) := ⟨tt, rfl, upd_same⟩
      have s2 := sG.trans (same_new (o := .tup [.str "free", .str x]) ntt)
      generalize upd G' tt (.tup [.str "free", .str x]) = G2 at hF2 hu2 st s2
      refine ⟨us, hF2, by rw [lu, sizeLine_eq]; omega, fun b o q => (upd_ne (ne_of_none q nf)).trans (s2 _ _ q), us ++ [.ref tt], upd_same, ?_⟩
      rw [K2P.take_snoc hx, List.map_append]
      exact pair_snoc (StepAt.setL st hF2) (pair_imp (fun _ _ q => StepAt.setL q hF2) hu2)
    have s2 := s1.trans sG
    have src2 := src1.same sG
    have fne := src1.ne nf
    have hu : Paired (StepAt G) us [frS a, frS b, frS c] := hu
    dsimp only [gName, List.set]
    refine ⟨3, rfl, by decide, by decide, fun D nD => lc_pops (i := 8) (j := 12) src2 (Bt.same s2) nfH fne.1 fne.2 hF hu rfl nD (fun _ => rfl) (fun _ => rfl) (fun _ => rfl) fun G3 us3 P1 src3 b3 hD3 hu3 pm1 fr3 => ?_⟩
    have nDH := none_up s2 nD
    have Dne := src2.ne nD
    dsimp only [gName, List.set]
    have lu3 : us3.length = 3 := by rw [Paired.length hu3, pm1.length_eq]; rfl
    refine ⟨_, rfl, _, rfl, _, rfl, _, rfl, p, q, 11, rfl, src3, by decide, by decide, fun n0 G4 n00 n01 src4 b4 => ⟨_, _, rfl, rfl, _, rfl, p, q, 4, rfl, src4, by decide, by decide, fun d0 G5 d00 d01 src5 b5 => ⟨_, _, rfl, rfl, by show 6 ≤ sizeLine; decide, fun t1 n1 => ⟨_, rfl, _, rfl, _, rfl, _, rfl, by show 5 ≤ sizeLine; decide, fun t2 n2 => ⟨by show 2 ≤ sizeLine; decide, fun R nR => ?_⟩⟩⟩⟩⟩
    have b45 := b4.trans b5
    have hD5 := b45 _ _ Dne.1 Dne.2 hD3
    have hu5 := pair_imp (fun _ _ q => StepAt.bt (StepAt.bt q b4 src3) b5 src4) hu3
    have bH5 := b3.trans b45
    have sA := same_new (o := .tup [.str "part", .str l, .str a, .str b, .int (n0 - 5), .int (1 + d0)]) n1
    have hA1 : upd G5 t1 (.tup [.str "part", .str l, .str a, .str b, .int (n0 - 5), .int (1 + d0)]) t1 = some (.tup [.str "part", .str l, .str a, .str b, .int (n0 - 5), .int (1 + d0)]) := upd_same
    have srcA := src5.new (o := .tup [.str "part", .str l, .str a, .str b, .int (n0 - 5), .int (1 + d0)]) n1
    generalize upd G5 t1 (.tup [.str "part", .str l, .str a, .str b, .int (n0 - 5), .int (1 + d0)]) = GA at sA hA1 srcA n2 nR ⊢
    have sB := same_new (o := .tup [.str "shift", .str m, .str c, .str a, .str b]) n2
    have hB2 : upd GA t2 (.tup [.str "shift", .str m, .str c, .str a, .str b]) t2 = some (.tup [.str "shift", .str m, .str c, .str a, .str b]) := upd_same
    have srcB := srcA.new (o := .tup [.str "shift", .str m, .str c, .str a, .str b]) n2
    generalize upd GA t2 (.tup [.str "shift", .str m, .str c, .str a, .str b]) = GB at sB hB2 srcB nR ⊢
    have sC := same_new (o := .lst [.ref t1, .ref t2]) nR
    have hRC : upd GB R (.lst [.ref t1, .ref t2]) R = some (.lst [.ref t1, .ref t2]) := upd_same
    have srcC := srcB.new (o := .lst [.ref t1, .ref t2]) nR
    have RD : R ≠ D := fun z => by rw [z, sB _ _ (sA _ _ hD5)] at nR; cases nR
    have Rne := srcB.ne nR
    generalize upd GB R (.lst [.ref t1, .ref t2]) = GC at sC hRC srcC ⊢
    have s5C := sA.trans (sB.trans sC)
    have bHC := bH5.trans (Bt.same s5C)
    have nRH : H R = none := (by
      cases q5 : H R with
      | none => rfl
      | some x => rw [sB _ _ (sA _ _ (bH5 _ _ Rne.1 Rne.2 q5))] at nR; cases nR)
    have hDC := s5C _ _ hD5
    have huC := pair_imp (fun _ _ q => StepAt.up q s5C) hu5
    have stl : StepAt GC (.ref t1) ⟨.part, l, [a, b], [n0 - 5, 1 + d0]⟩ := ⟨t1, rfl, sC _ _ (sB _ _ hA1)⟩
    have stm : StepAt GC (.ref t2) ⟨.shift, m, [c, a, b], []⟩ := ⟨t2, rfl, sC _ _ hB2⟩
    dsimp only [gName, List.set]
    refine ⟨_, rfl, .inl ⟨rfl, _, SqL.of hRC⟩, _, rfl, _, rfl, _, rfl, _, rfl, p, q, 3, rfl, srcC, by decide, by decide, fun e0 GE e00 e01 srcE bE => ⟨_, _, rfl, rfl, by show 6 ≤ sizeLine; decide, fun t3 n3 => ?_⟩⟩
    have hDE := bE _ _ Dne.1 Dne.2 hDC
    have hRE := bE _ _ Rne.1 Rne.2 hRC
    have huE := pair_imp (fun _ _ q => StepAt.bt q bE srcC) huC
    have stlE := stl.bt bE srcC
    have stmE := stm.bt bE srcC
    have sF := same_new (o := .tup [.str "part", .str z, .str a, .str b, .int 0, .int (1 + e0)]) n3
    have stz : StepAt (upd GE t3 (.tup [.str "part", .str z, .str a, .str b, .int 0, .int (1 + e0)])) (.ref t3) ⟨.part, z, [a, b], [0, 1 + e0]⟩ := ⟨t3, rfl, upd_same⟩
    have srcF := srcE.new (o := .tup [.str "part", .str z, .str a, .str b, .int 0, .int (1 + e0)]) n3
    have bHF := (bHC.trans bE).trans (Bt.same sF)
    have hRF := sF _ _ hRE
    have hDF := sF _ _ hDE
    have huF := pair_imp (fun _ _ q => StepAt.up q sF) huE
    have stlF := stlE.up sF
    have stmF := stmE.up sF
    refine ⟨R, _, _, rfl, rfl, hRF, by show 2 < sizeLine; decide, ?_⟩
    generalize upd GE t3 (.tup [.str "part", .str z, .str a, .str b, .int 0, .int (1 + e0)]) = GF at stz srcF bHF hRF hDF huF stlF stmF ⊢
    have hRG : upd GF R (.lst ([.ref t1, .ref t2] ++ [.ref t3])) R = some (.lst [.ref t1, .ref t2, .ref t3]) := upd_same
    have hDG : upd GF R (.lst ([.ref t1, .ref t2] ++ [.ref t3])) D = some (.lst us3) := (upd_ne (Ne.symm RD)).trans hDF
    have srcG := srcF.set (o := .lst ([.ref t1, .ref t2] ++ [.ref t3])) Rne.1 Rne.2
    have bHG : Bt p q H (upd GF R (.lst ([.ref t1, .ref t2] ++ [.ref t3]))) := bHF.set nRH
    have huG := pair_imp (fun _ _ q => StepAt.setL (xs := [.ref t1, .ref t2] ++ [.ref t3]) q hRF) huF
    have huR : Paired (StepAt (upd GF R (.lst ([.ref t1, .ref t2] ++ [.ref t3])))) [.ref t1, .ref t2, .ref t3] [⟨.part, l, [a, b], [n0 - 5, 1 + d0]⟩, ⟨.shift, m, [c, a, b], []⟩, ⟨.part, z, [a, b], [0, 1 + e0]⟩] :=
      .cons (stlF.setL hRF) (.cons (stmF.setL hRF) (.cons (stz.setL hRF) .nil))
    generalize upd GF R (.lst ([.ref t1, .ref t2] ++ [.ref t3])) = GG at hRG hDG srcG bHG huG huR ⊢
    refine ⟨_, rfl, 3, rfl, by decide, by decide, fun D2 nD2 => lc_pops (i := 10) (j := 12) srcG bHG nRH Rne.1 Rne.2 hRG huR rfl nD2 (fun _ => rfl) (fun _ => rfl) (fun _ => rfl) fun G7 us7 P2 src7 b7 hD7 hu7 pm2 fr7 => ?_⟩
    have lu7 : us7.length = 3 := by rw [Paired.length hu7, pm2.length_eq]; rfl
    have hDf := fr7 _ _ hDG Dne.1 Dne.2 (Ne.symm RD)
    have hu37 : Paired (StepAt G7) us3 P1 := pair_imp (fun _ _ ⟨x, e, h⟩ => ⟨x, e, fr7 _ _ h (fun z => by obtain ⟨_, _, _, _, k, _⟩ := srcG; rw [z, k] at h; cases h) (fun z => by obtain ⟨_, _, _, _, _, k, _⟩ := srcG; rw [z, k] at h; cases h) (fun z => by rw [z, hRG] at h; cases h)⟩) huG
    refine ⟨D, D2, us3, us7, rfl, rfl, hDf, hD7, by rw [lu3, lu7, sizeLine_eq]; decide, fun D3 nD3 => ?_⟩
    have nD3ne := src7.ne nD3
    have nD3H := b7.none nD3 nD3ne.1 nD3ne.2
    refine go D3 (us3 ++ us7) (P1 ++ P2) _ (src7.new nD3) (b7.set nD3H) nD3H upd_same (pair_imp (fun _ _ q => StepAt.up q (same_new nD3)) (pair_app hu37 hu7)) ⟨n0 - 5, 1 + d0, 1 + e0, P1, P2, by omega, by omega, by omega, by omega, by omega, by omega, pm1, pm2, rfl⟩
end
end CN

set_option Elab.async false
set_option linter.all false
set_option maxRecDepth 100000
set_option maxHeartbeats 4000000
set_option autoImplicit false
set_option pp.maxSteps 300
/-! The law's figures: which points can be made. Maths. -/
namespace CN
open PySem L2 K1D K2P
open K4 (isNm)
inductive Nm where
  | a | b | c | l | m | z
  deriving DecidableEq
def fr (i : Nat) : P3 := placedX (.var i) (.var (i + 1))
def ptI (A B C : P3) (n d e : Int) : Nm → P3
  | .a => A | .b => B | .c => C | .l => partX A B n d | .m => shiftX C A B | .z => partX A B 0 e
abbrev Itm := Wd × List Nm × List Int
def badI : List Itm := [(.foot, [.c, .a, .a], []), (.mirror, [.c, .b, .b], []), (.second, [.a, .a, .c], []), (.foot, [.c, .a, .z], []), (.foot, [.l, .l, .l], []), (.mirror, [.b, .z, .a], []), (.second, [.z, .a, .b], []), (.mirror, [.m, .m, .m], []), (.second, [.c, .c, .c], []), (.meet, [.a, .a, .b, .c], []), (.meet, [.b, .c, .a, .a], []), (.meet, [.a, .b, .a, .b], []), (.meet, [.a, .b, .b, .a], []), (.meet, [.a, .b, .a, .l], []), (.meet, [.a, .l, .b, .l], []), (.meet, [.a, .b, .c, .m], []), (.meet, [.m, .c, .l, .a], []), (.meet, [.a, .z, .b, .c], []), (.meet, [.a, .c, .b, .m], []), (.meet, [.b, .m, .z, .c], []), (.meet, [.z, .b, .m, .c], []), (.centre, [.a, .b, .l], []), (.centre, [.a, .a, .b], []), (.centre, [.c, .b, .c], []), (.centre, [.a, .z, .c], []), (.centre, [.l, .b, .a], []), (.centre, [.b, .b, .b], []), (.centre, [.z, .l, .b], []), (.centre, [.m, .c, .c], [])]
def goodI : List Itm := [(.foot, [.c, .a, .b], []), (.mirror, [.a, .b, .c], []), (.second, [.a, .b, .c], []), (.meet, [.a, .b, .c, .a], []), (.centre, [.a, .b, .c], []), (.centre, [.a, .c, .m], []), (.part, [.a, .a], [1, 2]), (.shift, [.a, .b, .b], []), (.turn, [.c, .a, .z], []), (.over, [.a, .a], []), (.foot, [.a, .a, .b], []), (.mirror, [.z, .z, .c], []), (.second, [.b, .z, .a], []), (.shift, [.m, .m, .m], []), (.part, [.z, .a], [-7, 3]), (.meet, [.a, .c, .m, .a], []), (.part, [.l, .l], [0, 5])]
def mkI (A B C : P3) (n d e : Int) (x : Itm) : P3 := mkP x.1 (x.2.1.map (ptI A B C n d e)) (varsX 0 (arU x.1)) x.2.2
def pt0 (t : Nm) : P3 := shp3 (ptI (fr 0) (fr 0) (fr 0) 0 0 0 t)
theorem shp_pt (i j k : Nat) (n d e : Int) (t : Nm) : shp3 (ptI (fr i) (fr j) (fr k) n d e t) = pt0 t := by cases t <;> rfl
def okI (x : Itm) : Bool := decide (x.2.1.length = arP x.1) && (decide (arU x.1 = 0) && (decide (x.2.2.length = arN x.1) && (szOk (mkP x.1 (x.2.1.map pt0) [] (x.2.2.map fun _ => 0)) && x.2.2.all fun k => decide (k.natAbs < 128))))
theorem all_ok : ∀ x ∈ badI ++ goodI, okI x = true := by decide +kernel
theorem sz_item {i j k : Nat} {n d e : Int} {x : Itm} (h : okI x = true) : szOk (mkI (fr i) (fr j) (fr k) n d e x) = true := by
  unfold okI at h
  simp only [Bool.and_eq_true, decide_eq_true_eq] at h
  obtain ⟨h1, h2, h3, h4, _⟩ := h
  unfold mkI
  have e0 : varsX 0 (arU x.1) = [] := by rw [h2]; rfl
  rw [← szOk_shp, shp3_mk _ _ _ _ (by rw [List.length_map]; exact h1) (by rw [e0, h2]; rfl) h3, e0, List.map_map, szOk_shp]
  have : (shp3 ∘ ptI (fr i) (fr j) (fr k) n d e) = pt0 := by funext t; exact shp_pt i j k n d e t
  rw [this]
  exact h4
theorem q_fr {n i : Nat} (h : i + 1 < n) : Q3 n (fr i) := q_placed (lv_var (by omega)) (lv_var h)
theorem q_pt {i j k : Nat} {n d e : Int} (hi : i < 6) (hj : j < 6) (hk : k < 6) (hn : n.natAbs < 128) (hd : d.natAbs < 128) (he : e.natAbs < 128) (t : Nm) : Q3 8 (ptI (fr i) (fr j) (fr k) n d e t) := by
  have A : Q3 8 (fr i) := q_fr (by omega)
  have B : Q3 8 (fr j) := q_fr (by omega)
  have C : Q3 8 (fr k) := q_fr (by omega)
  cases t
  · exact A
  · exact B
  · exact C
  · exact q_part A B hn hd
  · exact q_shift C A B
  · exact q_part A B (by decide) he
/-! ### what is 0 for all figures -/
theorem ev_cross_w (v : Nat → Int) (p q : P3) : evX v (crossX p q).w = evX v p.x * evX v q.y - evX v p.y * evX v q.x := rfl
theorem ev_cross_x (v : Nat → Int) (p q : P3) : evX v (crossX p q).x = evX v p.y * evX v q.w - evX v p.w * evX v q.y := rfl
theorem ev_cross_y (v : Nat → Int) (p q : P3) : evX v (crossX p q).y = evX v p.w * evX v q.x - evX v p.x * evX v q.w := rfl
theorem turn_x (v : Nat → Int) (M p q : P3) : evX v (crossX M (turnX M p q)).x = - (evX v M.w * evX v M.w * evX v (difX p q 0)) := by
  rw [ev_cross_x]
  show evX v M.y * (evX v M.w * (evX v p.w * evX v q.w)) - evX v M.w * (evX v M.y * (evX v p.w * evX v q.w) + evX v M.w * evX v (difX p q 0)) = _
  grind
theorem turn_y (v : Nat → Int) (M p q : P3) : evX v (crossX M (turnX M p q)).y = - (evX v M.w * evX v M.w * evX v (difX p q 1)) := by
  rw [ev_cross_y]
  show evX v M.w * (evX v M.x * (evX v p.w * evX v q.w) + evX v M.w * (evX v (difX p q 1) * -1)) - evX v M.x * (evX v M.w * (evX v p.w * evX v q.w)) = _
  grind
theorem centre_w (v : Nat → Int) (p q r : P3) : ∃ k : Int, evX v (centreX p q r).w = k * (evX v (difX p q 0) * evX v (difX p r 1) - evX v (difX p q 1) * evX v (difX p r 0)) ∧ k = (evX v p.w * evX v q.w * 2) * (evX v p.w * evX v q.w * 2) * ((evX v p.w * evX v r.w * 2) * (evX v p.w * evX v r.w * 2)) := by
  refine ⟨_, ?_, rfl⟩
  show evX v (crossX (crossX (partX p q 1 2) (turnX (partX p q 1 2) p q)) (crossX (partX p r 1 2) (turnX (partX p r 1 2) p r))).w = _
  rw [ev_cross_w, turn_x, turn_y, turn_x, turn_y]
  show -((evX v p.w * evX v q.w * 2) * (evX v p.w * evX v q.w * 2) * _) * -((evX v p.w * evX v r.w * 2) * (evX v p.w * evX v r.w * 2) * _) - -((evX v p.w * evX v q.w * 2) * (evX v p.w * evX v q.w * 2) * _) * -((evX v p.w * evX v r.w * 2) * (evX v p.w * evX v r.w * 2) * _) = _
  grind
theorem bz_0 {i j k : Nat} {n d e : Int} (v : Nat → Int) (A B C : P3) (hA : A = fr i) (hB : B = fr j) (hC : C = fr k) : evX v (footX C A A).w = 0 := by
  subst hA hB hC
  simp only [fr, placedX, partX, shiftX, movedX, difX, footX, squareX, P3.at, evX, reduceIte, Nat.succ_ne_zero, Nat.zero_ne_one, Nat.one_ne_zero]
  grind
theorem bz_1 {i j k : Nat} {n d e : Int} (v : Nat → Int) (A B C : P3) (hA : A = fr i) (hB : B = fr j) (hC : C = fr k) : evX v (mirrorX C B B).w = 0 := by
  subst hA hB hC
  simp only [fr, placedX, partX, shiftX, movedX, difX, mirrorX, overX, footX, squareX, P3.at, evX, reduceIte, Nat.succ_ne_zero, Nat.zero_ne_one, Nat.one_ne_zero]
  grind
theorem bz_2 {i j k : Nat} {n d e : Int} (v : Nat → Int) (A B C : P3) (hA : A = fr i) (hB : B = fr j) (hC : C = fr k) : evX v (secondX A A C).w = 0 := by
  subst hA hB hC
  simp only [fr, placedX, partX, shiftX, movedX, difX, secondX, overX, footX, squareX, P3.at, evX, reduceIte, Nat.succ_ne_zero, Nat.zero_ne_one, Nat.one_ne_zero]
  grind
theorem bz_3 {i j k : Nat} {n d e : Int} (v : Nat → Int) (A B C : P3) (hA : A = fr i) (hB : B = fr j) (hC : C = fr k) : evX v (footX C A (partX A B 0 e)).w = 0 := by
  subst hA hB hC
  simp only [fr, placedX, partX, shiftX, movedX, difX, footX, squareX, P3.at, evX, reduceIte, Nat.succ_ne_zero, Nat.zero_ne_one, Nat.one_ne_zero]
  grind
theorem bz_4 {i j k : Nat} {n d e : Int} (v : Nat → Int) (A B C : P3) (hA : A = fr i) (hB : B = fr j) (hC : C = fr k) : evX v (footX (partX A B n d) (partX A B n d) (partX A B n d)).w = 0 := by
  subst hA hB hC
  simp only [fr, placedX, partX, shiftX, movedX, difX, footX, squareX, P3.at, evX, reduceIte, Nat.succ_ne_zero, Nat.zero_ne_one, Nat.one_ne_zero]
  grind
theorem bz_5 {i j k : Nat} {n d e : Int} (v : Nat → Int) (A B C : P3) (hA : A = fr i) (hB : B = fr j) (hC : C = fr k) : evX v (mirrorX B (partX A B 0 e) A).w = 0 := by
  subst hA hB hC
  simp only [fr, placedX, partX, shiftX, movedX, difX, mirrorX, overX, footX, squareX, P3.at, evX, reduceIte, Nat.succ_ne_zero, Nat.zero_ne_one, Nat.one_ne_zero]
  grind
theorem bz_6 {i j k : Nat} {n d e : Int} (v : Nat → Int) (A B C : P3) (hA : A = fr i) (hB : B = fr j) (hC : C = fr k) : evX v (secondX (partX A B 0 e) A B).w = 0 := by
  subst hA hB hC
  simp only [fr, placedX, partX, shiftX, movedX, difX, secondX, overX, footX, squareX, P3.at, evX, reduceIte, Nat.succ_ne_zero, Nat.zero_ne_one, Nat.one_ne_zero]
  grind
theorem bz_7 {i j k : Nat} {n d e : Int} (v : Nat → Int) (A B C : P3) (hA : A = fr i) (hB : B = fr j) (hC : C = fr k) : evX v (mirrorX (shiftX C A B) (shiftX C A B) (shiftX C A B)).w = 0 := by
  subst hA hB hC
  simp only [fr, placedX, partX, shiftX, movedX, difX, mirrorX, overX, footX, squareX, P3.at, evX, reduceIte, Nat.succ_ne_zero, Nat.zero_ne_one, Nat.one_ne_zero]
  grind
theorem bz_8 {i j k : Nat} {n d e : Int} (v : Nat → Int) (A B C : P3) (hA : A = fr i) (hB : B = fr j) (hC : C = fr k) : evX v (secondX C C C).w = 0 := by
  subst hA hB hC
  simp only [fr, placedX, partX, shiftX, movedX, difX, secondX, overX, footX, squareX, P3.at, evX, reduceIte, Nat.succ_ne_zero, Nat.zero_ne_one, Nat.one_ne_zero]
  grind
theorem bz_9 {i j k : Nat} {n d e : Int} (v : Nat → Int) (A B C : P3) (hA : A = fr i) (hB : B = fr j) (hC : C = fr k) : evX v (meetX A A B C).w = 0 := by
  subst hA hB hC
  simp only [fr, placedX, partX, shiftX, movedX, difX, meetX, crossX, P3.at, evX, reduceIte, Nat.succ_ne_zero, Nat.zero_ne_one, Nat.one_ne_zero]
  grind
theorem bz_10 {i j k : Nat} {n d e : Int} (v : Nat → Int) (A B C : P3) (hA : A = fr i) (hB : B = fr j) (hC : C = fr k) : evX v (meetX B C A A).w = 0 := by
  subst hA hB hC
  simp only [fr, placedX, partX, shiftX, movedX, difX, meetX, crossX, P3.at, evX, reduceIte, Nat.succ_ne_zero, Nat.zero_ne_one, Nat.one_ne_zero]
  grind
theorem bz_11 {i j k : Nat} {n d e : Int} (v : Nat → Int) (A B C : P3) (hA : A = fr i) (hB : B = fr j) (hC : C = fr k) : evX v (meetX A B A B).w = 0 := by
  subst hA hB hC
  simp only [fr, placedX, partX, shiftX, movedX, difX, meetX, crossX, P3.at, evX, reduceIte, Nat.succ_ne_zero, Nat.zero_ne_one, Nat.one_ne_zero]
  grind
theorem bz_12 {i j k : Nat} {n d e : Int} (v : Nat → Int) (A B C : P3) (hA : A = fr i) (hB : B = fr j) (hC : C = fr k) : evX v (meetX A B B A).w = 0 := by
  subst hA hB hC
  simp only [fr, placedX, partX, shiftX, movedX, difX, meetX, crossX, P3.at, evX, reduceIte, Nat.succ_ne_zero, Nat.zero_ne_one, Nat.one_ne_zero]
  grind
theorem bz_13 {i j k : Nat} {n d e : Int} (v : Nat → Int) (A B C : P3) (hA : A = fr i) (hB : B = fr j) (hC : C = fr k) : evX v (meetX A B A (partX A B n d)).w = 0 := by
  subst hA hB hC
  simp only [fr, placedX, partX, shiftX, movedX, difX, meetX, crossX, P3.at, evX, reduceIte, Nat.succ_ne_zero, Nat.zero_ne_one, Nat.one_ne_zero]
  grind
theorem bz_14 {i j k : Nat} {n d e : Int} (v : Nat → Int) (A B C : P3) (hA : A = fr i) (hB : B = fr j) (hC : C = fr k) : evX v (meetX A (partX A B n d) B (partX A B n d)).w = 0 := by
  subst hA hB hC
  simp only [fr, placedX, partX, shiftX, movedX, difX, meetX, crossX, P3.at, evX, reduceIte, Nat.succ_ne_zero, Nat.zero_ne_one, Nat.one_ne_zero]
  grind
theorem bz_15 {i j k : Nat} {n d e : Int} (v : Nat → Int) (A B C : P3) (hA : A = fr i) (hB : B = fr j) (hC : C = fr k) : evX v (meetX A B C (shiftX C A B)).w = 0 := by
  subst hA hB hC
  simp only [fr, placedX, partX, shiftX, movedX, difX, meetX, crossX, P3.at, evX, reduceIte, Nat.succ_ne_zero, Nat.zero_ne_one, Nat.one_ne_zero]
  grind
theorem bz_16 {i j k : Nat} {n d e : Int} (v : Nat → Int) (A B C : P3) (hA : A = fr i) (hB : B = fr j) (hC : C = fr k) : evX v (meetX (shiftX C A B) C (partX A B n d) A).w = 0 := by
  subst hA hB hC
  simp only [fr, placedX, partX, shiftX, movedX, difX, meetX, crossX, P3.at, evX, reduceIte, Nat.succ_ne_zero, Nat.zero_ne_one, Nat.one_ne_zero]
  grind
theorem bz_17 {i j k : Nat} {n d e : Int} (v : Nat → Int) (A B C : P3) (hA : A = fr i) (hB : B = fr j) (hC : C = fr k) : evX v (meetX A (partX A B 0 e) B C).w = 0 := by
  subst hA hB hC
  simp only [fr, placedX, partX, shiftX, movedX, difX, meetX, crossX, P3.at, evX, reduceIte, Nat.succ_ne_zero, Nat.zero_ne_one, Nat.one_ne_zero]
  grind
theorem bz_18 {i j k : Nat} {n d e : Int} (v : Nat → Int) (A B C : P3) (hA : A = fr i) (hB : B = fr j) (hC : C = fr k) : evX v (meetX A C B (shiftX C A B)).w = 0 := by
  subst hA hB hC
  simp only [fr, placedX, partX, shiftX, movedX, difX, meetX, crossX, P3.at, evX, reduceIte, Nat.succ_ne_zero, Nat.zero_ne_one, Nat.one_ne_zero]
  grind
theorem bz_19 {i j k : Nat} {n d e : Int} (v : Nat → Int) (A B C : P3) (hA : A = fr i) (hB : B = fr j) (hC : C = fr k) : evX v (meetX B (shiftX C A B) (partX A B 0 e) C).w = 0 := by
  subst hA hB hC
  simp only [fr, placedX, partX, shiftX, movedX, difX, meetX, crossX, P3.at, evX, reduceIte, Nat.succ_ne_zero, Nat.zero_ne_one, Nat.one_ne_zero]
  grind
theorem bz_20 {i j k : Nat} {n d e : Int} (v : Nat → Int) (A B C : P3) (hA : A = fr i) (hB : B = fr j) (hC : C = fr k) : evX v (meetX (partX A B 0 e) B (shiftX C A B) C).w = 0 := by
  subst hA hB hC
  simp only [fr, placedX, partX, shiftX, movedX, difX, meetX, crossX, P3.at, evX, reduceIte, Nat.succ_ne_zero, Nat.zero_ne_one, Nat.one_ne_zero]
  grind
theorem bz_21 {i j k : Nat} {n d e : Int} (v : Nat → Int) (A B C : P3) (hA : A = fr i) (hB : B = fr j) (hC : C = fr k) : evX v (centreX A B (partX A B n d)).w = 0 := by
  subst hA hB hC
  obtain ⟨c, ec, _⟩ := centre_w v (fr i) (fr j) (partX (fr i) (fr j) n d)
  rw [ec]
  simp only [fr, placedX, partX, shiftX, movedX, difX, difX, P3.at, evX, reduceIte, Nat.succ_ne_zero, Nat.zero_ne_one, Nat.one_ne_zero]
  grind
theorem bz_22 {i j k : Nat} {n d e : Int} (v : Nat → Int) (A B C : P3) (hA : A = fr i) (hB : B = fr j) (hC : C = fr k) : evX v (centreX A A B).w = 0 := by
  subst hA hB hC
  obtain ⟨c, ec, _⟩ := centre_w v (fr i) (fr i) (fr j)
  rw [ec]
  simp only [fr, placedX, partX, shiftX, movedX, difX, difX, P3.at, evX, reduceIte, Nat.succ_ne_zero, Nat.zero_ne_one, Nat.one_ne_zero]
  grind
theorem bz_23 {i j k : Nat} {n d e : Int} (v : Nat → Int) (A B C : P3) (hA : A = fr i) (hB : B = fr j) (hC : C = fr k) : evX v (centreX C B C).w = 0 := by
  subst hA hB hC
  obtain ⟨c, ec, _⟩ := centre_w v (fr k) (fr j) (fr k)
  rw [ec]
  simp only [fr, placedX, partX, shiftX, movedX, difX, difX, P3.at, evX, reduceIte, Nat.succ_ne_zero, Nat.zero_ne_one, Nat.one_ne_zero]
  grind
theorem bz_24 {i j k : Nat} {n d e : Int} (v : Nat → Int) (A B C : P3) (hA : A = fr i) (hB : B = fr j) (hC : C = fr k) : evX v (centreX A (partX A B 0 e) C).w = 0 := by
  subst hA hB hC
  obtain ⟨c, ec, _⟩ := centre_w v (fr i) (partX (fr i) (fr j) 0 e) (fr k)
  rw [ec]
  simp only [fr, placedX, partX, shiftX, movedX, difX, difX, P3.at, evX, reduceIte, Nat.succ_ne_zero, Nat.zero_ne_one, Nat.one_ne_zero]
  grind
theorem bz_25 {i j k : Nat} {n d e : Int} (v : Nat → Int) (A B C : P3) (hA : A = fr i) (hB : B = fr j) (hC : C = fr k) : evX v (centreX (partX A B n d) B A).w = 0 := by
  subst hA hB hC
  obtain ⟨c, ec, _⟩ := centre_w v (partX (fr i) (fr j) n d) (fr j) (fr i)
  rw [ec]
  simp only [fr, placedX, partX, shiftX, movedX, difX, difX, P3.at, evX, reduceIte, Nat.succ_ne_zero, Nat.zero_ne_one, Nat.one_ne_zero]
  grind
theorem bz_26 {i j k : Nat} {n d e : Int} (v : Nat → Int) (A B C : P3) (hA : A = fr i) (hB : B = fr j) (hC : C = fr k) : evX v (centreX B B B).w = 0 := by
  subst hA hB hC
  obtain ⟨c, ec, _⟩ := centre_w v (fr j) (fr j) (fr j)
  rw [ec]
  simp only [fr, placedX, partX, shiftX, movedX, difX, difX, P3.at, evX, reduceIte, Nat.succ_ne_zero, Nat.zero_ne_one, Nat.one_ne_zero]
  grind
theorem bz_27 {i j k : Nat} {n d e : Int} (v : Nat → Int) (A B C : P3) (hA : A = fr i) (hB : B = fr j) (hC : C = fr k) : evX v (centreX (partX A B 0 e) (partX A B n d) B).w = 0 := by
  subst hA hB hC
  obtain ⟨c, ec, _⟩ := centre_w v (partX (fr i) (fr j) 0 e) (partX (fr i) (fr j) n d) (fr j)
  rw [ec]
  simp only [fr, placedX, partX, shiftX, movedX, difX, difX, P3.at, evX, reduceIte, Nat.succ_ne_zero, Nat.zero_ne_one, Nat.one_ne_zero]
  grind
theorem bz_28 {i j k : Nat} {n d e : Int} (v : Nat → Int) (A B C : P3) (hA : A = fr i) (hB : B = fr j) (hC : C = fr k) : evX v (centreX (shiftX C A B) C C).w = 0 := by
  subst hA hB hC
  obtain ⟨c, ec, _⟩ := centre_w v (shiftX (fr k) (fr i) (fr j)) (fr k) (fr k)
  rw [ec]
  simp only [fr, placedX, partX, shiftX, movedX, difX, difX, P3.at, evX, reduceIte, Nat.succ_ne_zero, Nat.zero_ne_one, Nat.one_ne_zero]
  grind
theorem bad_zero {i j k : Nat} {n d e : Int} (v : Nat → Int) : ∀ x ∈ badI, evX v (mkI (fr i) (fr j) (fr k) n d e x).w = 0 := by
  intro x hx
  simp only [badI, List.mem_cons, List.not_mem_nil, or_false] at hx
  rcases hx with rfl | rfl | rfl | rfl | rfl | rfl | rfl | rfl | rfl | rfl | rfl | rfl | rfl | rfl | rfl | rfl | rfl | rfl | rfl | rfl | rfl | rfl | rfl | rfl | rfl | rfl | rfl | rfl | rfl
  · exact bz_0 (i := i) (j := j) (k := k) (n := n) (d := d) (e := e) v _ _ _ rfl rfl rfl
  · exact bz_1 (i := i) (j := j) (k := k) (n := n) (d := d) (e := e) v _ _ _ rfl rfl rfl
  · exact bz_2 (i := i) (j := j) (k := k) (n := n) (d := d) (e := e) v _ _ _ rfl rfl rfl
  · exact bz_3 (i := i) (j := j) (k := k) (n := n) (d := d) (e := e) v _ _ _ rfl rfl rfl
  · exact bz_4 (i := i) (j := j) (k := k) (n := n) (d := d) (e := e) v _ _ _ rfl rfl rfl
  · exact bz_5 (i := i) (j := j) (k := k) (n := n) (d := d) (e := e) v _ _ _ rfl rfl rfl
  · exact bz_6 (i := i) (j := j) (k := k) (n := n) (d := d) (e := e) v _ _ _ rfl rfl rfl
  · exact bz_7 (i := i) (j := j) (k := k) (n := n) (d := d) (e := e) v _ _ _ rfl rfl rfl
  · exact bz_8 (i := i) (j := j) (k := k) (n := n) (d := d) (e := e) v _ _ _ rfl rfl rfl
  · exact bz_9 (i := i) (j := j) (k := k) (n := n) (d := d) (e := e) v _ _ _ rfl rfl rfl
  · exact bz_10 (i := i) (j := j) (k := k) (n := n) (d := d) (e := e) v _ _ _ rfl rfl rfl
  · exact bz_11 (i := i) (j := j) (k := k) (n := n) (d := d) (e := e) v _ _ _ rfl rfl rfl
  · exact bz_12 (i := i) (j := j) (k := k) (n := n) (d := d) (e := e) v _ _ _ rfl rfl rfl
  · exact bz_13 (i := i) (j := j) (k := k) (n := n) (d := d) (e := e) v _ _ _ rfl rfl rfl
  · exact bz_14 (i := i) (j := j) (k := k) (n := n) (d := d) (e := e) v _ _ _ rfl rfl rfl
  · exact bz_15 (i := i) (j := j) (k := k) (n := n) (d := d) (e := e) v _ _ _ rfl rfl rfl
  · exact bz_16 (i := i) (j := j) (k := k) (n := n) (d := d) (e := e) v _ _ _ rfl rfl rfl
  · exact bz_17 (i := i) (j := j) (k := k) (n := n) (d := d) (e := e) v _ _ _ rfl rfl rfl
  · exact bz_18 (i := i) (j := j) (k := k) (n := n) (d := d) (e := e) v _ _ _ rfl rfl rfl
  · exact bz_19 (i := i) (j := j) (k := k) (n := n) (d := d) (e := e) v _ _ _ rfl rfl rfl
  · exact bz_20 (i := i) (j := j) (k := k) (n := n) (d := d) (e := e) v _ _ _ rfl rfl rfl
  · exact bz_21 (i := i) (j := j) (k := k) (n := n) (d := d) (e := e) v _ _ _ rfl rfl rfl
  · exact bz_22 (i := i) (j := j) (k := k) (n := n) (d := d) (e := e) v _ _ _ rfl rfl rfl
  · exact bz_23 (i := i) (j := j) (k := k) (n := n) (d := d) (e := e) v _ _ _ rfl rfl rfl
  · exact bz_24 (i := i) (j := j) (k := k) (n := n) (d := d) (e := e) v _ _ _ rfl rfl rfl
  · exact bz_25 (i := i) (j := j) (k := k) (n := n) (d := d) (e := e) v _ _ _ rfl rfl rfl
  · exact bz_26 (i := i) (j := j) (k := k) (n := n) (d := d) (e := e) v _ _ _ rfl rfl rfl
  · exact bz_27 (i := i) (j := j) (k := k) (n := n) (d := d) (e := e) v _ _ _ rfl rfl rfl
  · exact bz_28 (i := i) (j := j) (k := k) (n := n) (d := d) (e := e) v _ _ _ rfl rfl rfl
structure VAt (v : Nat → Int) (i j k : Nat) : Prop where
  a0 : v i = 0
  a1 : v (i + 1) = 0
  b0 : v j = 1
  b1 : v (j + 1) = 0
  c0 : v k = 0
  c1 : v (k + 1) = 1
theorem gz_0 {i j k : Nat} {n d e : Int} (v : Nat → Int) (A B C : P3) (hA : A = fr i) (hB : B = fr j) (hC : C = fr k) (hv : VAt v i j k) (d1 : 1 ≤ d) (d4 : d ≤ 4) (e1 : 1 ≤ e) (e3 : e ≤ 3) : evX v (footX C A B).w ≠ 0 := by
  subst hA hB hC
  simp only [fr, placedX, partX, shiftX, movedX, difX, footX, squareX, P3.at, evX, reduceIte, Nat.succ_ne_zero, Nat.zero_ne_one, Nat.one_ne_zero]
  try simp only [hv.a0, hv.a1, hv.b0, hv.b1, hv.c0, hv.c1]
  have hd : d = 1 ∨ d = 2 ∨ d = 3 ∨ d = 4 := by omega
  have he : e = 1 ∨ e = 2 ∨ e = 3 := by omega
  clear d1 d4 e1 e3 hv
  try rcases hd with rfl | rfl | rfl | rfl
  all_goals try rcases he with rfl | rfl | rfl
  all_goals first | decide | (simp <;> done) | grind
theorem gz_1 {i j k : Nat} {n d e : Int} (v : Nat → Int) (A B C : P3) (hA : A = fr i) (hB : B = fr j) (hC : C = fr k) (hv : VAt v i j k) (d1 : 1 ≤ d) (d4 : d ≤ 4) (e1 : 1 ≤ e) (e3 : e ≤ 3) : evX v (mirrorX A B C).w ≠ 0 := by
  subst hA hB hC
  simp only [fr, placedX, partX, shiftX, movedX, difX, mirrorX, overX, footX, squareX, P3.at, evX, reduceIte, Nat.succ_ne_zero, Nat.zero_ne_one, Nat.one_ne_zero]
  try simp only [hv.a0, hv.a1, hv.b0, hv.b1, hv.c0, hv.c1]
  have hd : d = 1 ∨ d = 2 ∨ d = 3 ∨ d = 4 := by omega
  have he : e = 1 ∨ e = 2 ∨ e = 3 := by omega
  clear d1 d4 e1 e3 hv
  try rcases hd with rfl | rfl | rfl | rfl
  all_goals try rcases he with rfl | rfl | rfl
  all_goals first | decide | (simp <;> done) | grind
theorem gz_2 {i j k : Nat} {n d e : Int} (v : Nat → Int) (A B C : P3) (hA : A = fr i) (hB : B = fr j) (hC : C = fr k) (hv : VAt v i j k) (d1 : 1 ≤ d) (d4 : d ≤ 4) (e1 : 1 ≤ e) (e3 : e ≤ 3) : evX v (secondX A B C).w ≠ 0 := by
  subst hA hB hC
  simp only [fr, placedX, partX, shiftX, movedX, difX, secondX, overX, footX, squareX, P3.at, evX, reduceIte, Nat.succ_ne_zero, Nat.zero_ne_one, Nat.one_ne_zero]
  try simp only [hv.a0, hv.a1, hv.b0, hv.b1, hv.c0, hv.c1]
  have hd : d = 1 ∨ d = 2 ∨ d = 3 ∨ d = 4 := by omega
  have he : e = 1 ∨ e = 2 ∨ e = 3 := by omega
  clear d1 d4 e1 e3 hv
  try rcases hd with rfl | rfl | rfl | rfl
  all_goals try rcases he with rfl | rfl | rfl
  all_goals first | decide | (simp <;> done) | grind
theorem gz_3 {i j k : Nat} {n d e : Int} (v : Nat → Int) (A B C : P3) (hA : A = fr i) (hB : B = fr j) (hC : C = fr k) (hv : VAt v i j k) (d1 : 1 ≤ d) (d4 : d ≤ 4) (e1 : 1 ≤ e) (e3 : e ≤ 3) : evX v (meetX A B C A).w ≠ 0 := by
  subst hA hB hC
  simp only [fr, placedX, partX, shiftX, movedX, difX, meetX, crossX, P3.at, evX, reduceIte, Nat.succ_ne_zero, Nat.zero_ne_one, Nat.one_ne_zero]
  try simp only [hv.a0, hv.a1, hv.b0, hv.b1, hv.c0, hv.c1]
  have hd : d = 1 ∨ d = 2 ∨ d = 3 ∨ d = 4 := by omega
  have he : e = 1 ∨ e = 2 ∨ e = 3 := by omega
  clear d1 d4 e1 e3 hv
  try rcases hd with rfl | rfl | rfl | rfl
  all_goals try rcases he with rfl | rfl | rfl
  all_goals first | decide | (simp <;> done) | grind
theorem gz_4 {i j k : Nat} {n d e : Int} (v : Nat → Int) (A B C : P3) (hA : A = fr i) (hB : B = fr j) (hC : C = fr k) (hv : VAt v i j k) (d1 : 1 ≤ d) (d4 : d ≤ 4) (e1 : 1 ≤ e) (e3 : e ≤ 3) : evX v (centreX A B C).w ≠ 0 := by
  subst hA hB hC
  obtain ⟨c, ec, hc⟩ := centre_w v (fr i) (fr j) (fr k)
  rw [ec, hc]
  clear ec hc
  simp only [fr, placedX, partX, shiftX, movedX, difX, difX, P3.at, evX, reduceIte, Nat.succ_ne_zero, Nat.zero_ne_one, Nat.one_ne_zero]
  try simp only [hv.a0, hv.a1, hv.b0, hv.b1, hv.c0, hv.c1]
  have hd : d = 1 ∨ d = 2 ∨ d = 3 ∨ d = 4 := by omega
  have he : e = 1 ∨ e = 2 ∨ e = 3 := by omega
  clear d1 d4 e1 e3 hv
  try rcases hd with rfl | rfl | rfl | rfl
  all_goals try rcases he with rfl | rfl | rfl
  all_goals first | decide | (simp <;> done) | grind
theorem gz_5 {i j k : Nat} {n d e : Int} (v : Nat → Int) (A B C : P3) (hA : A = fr i) (hB : B = fr j) (hC : C = fr k) (hv : VAt v i j k) (d1 : 1 ≤ d) (d4 : d ≤ 4) (e1 : 1 ≤ e) (e3 : e ≤ 3) : evX v (centreX A C (shiftX C A B)).w ≠ 0 := by
  subst hA hB hC
  obtain ⟨c, ec, hc⟩ := centre_w v (fr i) (fr k) (shiftX (fr k) (fr i) (fr j))
  rw [ec, hc]
  clear ec hc
  simp only [fr, placedX, partX, shiftX, movedX, difX, difX, P3.at, evX, reduceIte, Nat.succ_ne_zero, Nat.zero_ne_one, Nat.one_ne_zero]
  try simp only [hv.a0, hv.a1, hv.b0, hv.b1, hv.c0, hv.c1]
  have hd : d = 1 ∨ d = 2 ∨ d = 3 ∨ d = 4 := by omega
  have he : e = 1 ∨ e = 2 ∨ e = 3 := by omega
  clear d1 d4 e1 e3 hv
  try rcases hd with rfl | rfl | rfl | rfl
  all_goals try rcases he with rfl | rfl | rfl
  all_goals first | decide | (simp <;> done) | grind
theorem gz_6 {i j k : Nat} {n d e : Int} (v : Nat → Int) (A B C : P3) (hA : A = fr i) (hB : B = fr j) (hC : C = fr k) (hv : VAt v i j k) (d1 : 1 ≤ d) (d4 : d ≤ 4) (e1 : 1 ≤ e) (e3 : e ≤ 3) : evX v (partX A A (1) (2)).w ≠ 0 := by
  subst hA hB hC
  simp only [fr, placedX, partX, shiftX, movedX, difX, difX, P3.at, evX, reduceIte, Nat.succ_ne_zero, Nat.zero_ne_one, Nat.one_ne_zero]
  try simp only [hv.a0, hv.a1, hv.b0, hv.b1, hv.c0, hv.c1]
  have hd : d = 1 ∨ d = 2 ∨ d = 3 ∨ d = 4 := by omega
  have he : e = 1 ∨ e = 2 ∨ e = 3 := by omega
  clear d1 d4 e1 e3 hv
  try rcases hd with rfl | rfl | rfl | rfl
  all_goals try rcases he with rfl | rfl | rfl
  all_goals first | decide | (simp <;> done) | grind
theorem gz_7 {i j k : Nat} {n d e : Int} (v : Nat → Int) (A B C : P3) (hA : A = fr i) (hB : B = fr j) (hC : C = fr k) (hv : VAt v i j k) (d1 : 1 ≤ d) (d4 : d ≤ 4) (e1 : 1 ≤ e) (e3 : e ≤ 3) : evX v (shiftX A B B).w ≠ 0 := by
  subst hA hB hC
  simp only [fr, placedX, partX, shiftX, movedX, difX, difX, P3.at, evX, reduceIte, Nat.succ_ne_zero, Nat.zero_ne_one, Nat.one_ne_zero]
  try simp only [hv.a0, hv.a1, hv.b0, hv.b1, hv.c0, hv.c1]
  have hd : d = 1 ∨ d = 2 ∨ d = 3 ∨ d = 4 := by omega
  have he : e = 1 ∨ e = 2 ∨ e = 3 := by omega
  clear d1 d4 e1 e3 hv
  try rcases hd with rfl | rfl | rfl | rfl
  all_goals try rcases he with rfl | rfl | rfl
  all_goals first | decide | (simp <;> done) | grind
theorem gz_8 {i j k : Nat} {n d e : Int} (v : Nat → Int) (A B C : P3) (hA : A = fr i) (hB : B = fr j) (hC : C = fr k) (hv : VAt v i j k) (d1 : 1 ≤ d) (d4 : d ≤ 4) (e1 : 1 ≤ e) (e3 : e ≤ 3) : evX v (turnX C A (partX A B 0 e)).w ≠ 0 := by
  subst hA hB hC
  simp only [fr, placedX, partX, shiftX, movedX, difX, turnX, P3.at, evX, reduceIte, Nat.succ_ne_zero, Nat.zero_ne_one, Nat.one_ne_zero]
  try simp only [hv.a0, hv.a1, hv.b0, hv.b1, hv.c0, hv.c1]
  have hd : d = 1 ∨ d = 2 ∨ d = 3 ∨ d = 4 := by omega
  have he : e = 1 ∨ e = 2 ∨ e = 3 := by omega
  clear d1 d4 e1 e3 hv
  try rcases hd with rfl | rfl | rfl | rfl
  all_goals try rcases he with rfl | rfl | rfl
  all_goals first | decide | (simp <;> done) | grind
theorem gz_9 {i j k : Nat} {n d e : Int} (v : Nat → Int) (A B C : P3) (hA : A = fr i) (hB : B = fr j) (hC : C = fr k) (hv : VAt v i j k) (d1 : 1 ≤ d) (d4 : d ≤ 4) (e1 : 1 ≤ e) (e3 : e ≤ 3) : evX v (overX A A).w ≠ 0 := by
  subst hA hB hC
  simp only [fr, placedX, partX, shiftX, movedX, difX, overX, P3.at, evX, reduceIte, Nat.succ_ne_zero, Nat.zero_ne_one, Nat.one_ne_zero]
  try simp only [hv.a0, hv.a1, hv.b0, hv.b1, hv.c0, hv.c1]
  have hd : d = 1 ∨ d = 2 ∨ d = 3 ∨ d = 4 := by omega
  have he : e = 1 ∨ e = 2 ∨ e = 3 := by omega
  clear d1 d4 e1 e3 hv
  try rcases hd with rfl | rfl | rfl | rfl
  all_goals try rcases he with rfl | rfl | rfl
  all_goals first | decide | (simp <;> done) | grind
theorem gz_10 {i j k : Nat} {n d e : Int} (v : Nat → Int) (A B C : P3) (hA : A = fr i) (hB : B = fr j) (hC : C = fr k) (hv : VAt v i j k) (d1 : 1 ≤ d) (d4 : d ≤ 4) (e1 : 1 ≤ e) (e3 : e ≤ 3) : evX v (footX A A B).w ≠ 0 := by
  subst hA hB hC
  simp only [fr, placedX, partX, shiftX, movedX, difX, footX, squareX, P3.at, evX, reduceIte, Nat.succ_ne_zero, Nat.zero_ne_one, Nat.one_ne_zero]
  try simp only [hv.a0, hv.a1, hv.b0, hv.b1, hv.c0, hv.c1]
  have hd : d = 1 ∨ d = 2 ∨ d = 3 ∨ d = 4 := by omega
  have he : e = 1 ∨ e = 2 ∨ e = 3 := by omega
  clear d1 d4 e1 e3 hv
  try rcases hd with rfl | rfl | rfl | rfl
  all_goals try rcases he with rfl | rfl | rfl
  all_goals first | decide | (simp <;> done) | grind
theorem gz_11 {i j k : Nat} {n d e : Int} (v : Nat → Int) (A B C : P3) (hA : A = fr i) (hB : B = fr j) (hC : C = fr k) (hv : VAt v i j k) (d1 : 1 ≤ d) (d4 : d ≤ 4) (e1 : 1 ≤ e) (e3 : e ≤ 3) : evX v (mirrorX (partX A B 0 e) (partX A B 0 e) C).w ≠ 0 := by
  subst hA hB hC
  simp only [fr, placedX, partX, shiftX, movedX, difX, mirrorX, overX, footX, squareX, P3.at, evX, reduceIte, Nat.succ_ne_zero, Nat.zero_ne_one, Nat.one_ne_zero]
  try simp only [hv.a0, hv.a1, hv.b0, hv.b1, hv.c0, hv.c1]
  have hd : d = 1 ∨ d = 2 ∨ d = 3 ∨ d = 4 := by omega
  have he : e = 1 ∨ e = 2 ∨ e = 3 := by omega
  clear d1 d4 e1 e3 hv
  try rcases hd with rfl | rfl | rfl | rfl
  all_goals try rcases he with rfl | rfl | rfl
  all_goals first | decide | (simp <;> done) | grind
theorem gz_12 {i j k : Nat} {n d e : Int} (v : Nat → Int) (A B C : P3) (hA : A = fr i) (hB : B = fr j) (hC : C = fr k) (hv : VAt v i j k) (d1 : 1 ≤ d) (d4 : d ≤ 4) (e1 : 1 ≤ e) (e3 : e ≤ 3) : evX v (secondX B (partX A B 0 e) A).w ≠ 0 := by
  subst hA hB hC
  simp only [fr, placedX, partX, shiftX, movedX, difX, secondX, overX, footX, squareX, P3.at, evX, reduceIte, Nat.succ_ne_zero, Nat.zero_ne_one, Nat.one_ne_zero]
  try simp only [hv.a0, hv.a1, hv.b0, hv.b1, hv.c0, hv.c1]
  have hd : d = 1 ∨ d = 2 ∨ d = 3 ∨ d = 4 := by omega
  have he : e = 1 ∨ e = 2 ∨ e = 3 := by omega
  clear d1 d4 e1 e3 hv
  try rcases hd with rfl | rfl | rfl | rfl
  all_goals try rcases he with rfl | rfl | rfl
  all_goals first | decide | (simp <;> done) | grind
theorem gz_13 {i j k : Nat} {n d e : Int} (v : Nat → Int) (A B C : P3) (hA : A = fr i) (hB : B = fr j) (hC : C = fr k) (hv : VAt v i j k) (d1 : 1 ≤ d) (d4 : d ≤ 4) (e1 : 1 ≤ e) (e3 : e ≤ 3) : evX v (shiftX (shiftX C A B) (shiftX C A B) (shiftX C A B)).w ≠ 0 := by
  subst hA hB hC
  simp only [fr, placedX, partX, shiftX, movedX, difX, difX, P3.at, evX, reduceIte, Nat.succ_ne_zero, Nat.zero_ne_one, Nat.one_ne_zero]
  try simp only [hv.a0, hv.a1, hv.b0, hv.b1, hv.c0, hv.c1]
  have hd : d = 1 ∨ d = 2 ∨ d = 3 ∨ d = 4 := by omega
  have he : e = 1 ∨ e = 2 ∨ e = 3 := by omega
  clear d1 d4 e1 e3 hv
  try rcases hd with rfl | rfl | rfl | rfl
  all_goals try rcases he with rfl | rfl | rfl
  all_goals first | decide | (simp <;> done) | grind
theorem gz_14 {i j k : Nat} {n d e : Int} (v : Nat → Int) (A B C : P3) (hA : A = fr i) (hB : B = fr j) (hC : C = fr k) (hv : VAt v i j k) (d1 : 1 ≤ d) (d4 : d ≤ 4) (e1 : 1 ≤ e) (e3 : e ≤ 3) : evX v (partX (partX A B 0 e) A (-7) (3)).w ≠ 0 := by
  subst hA hB hC
  simp only [fr, placedX, partX, shiftX, movedX, difX, difX, P3.at, evX, reduceIte, Nat.succ_ne_zero, Nat.zero_ne_one, Nat.one_ne_zero]
  try simp only [hv.a0, hv.a1, hv.b0, hv.b1, hv.c0, hv.c1]
  have hd : d = 1 ∨ d = 2 ∨ d = 3 ∨ d = 4 := by omega
  have he : e = 1 ∨ e = 2 ∨ e = 3 := by omega
  clear d1 d4 e1 e3 hv
  try rcases hd with rfl | rfl | rfl | rfl
  all_goals try rcases he with rfl | rfl | rfl
  all_goals first | decide | (simp <;> done) | grind
theorem gz_15 {i j k : Nat} {n d e : Int} (v : Nat → Int) (A B C : P3) (hA : A = fr i) (hB : B = fr j) (hC : C = fr k) (hv : VAt v i j k) (d1 : 1 ≤ d) (d4 : d ≤ 4) (e1 : 1 ≤ e) (e3 : e ≤ 3) : evX v (meetX A C (shiftX C A B) A).w ≠ 0 := by
  subst hA hB hC
  simp only [fr, placedX, partX, shiftX, movedX, difX, meetX, crossX, P3.at, evX, reduceIte, Nat.succ_ne_zero, Nat.zero_ne_one, Nat.one_ne_zero]
  try simp only [hv.a0, hv.a1, hv.b0, hv.b1, hv.c0, hv.c1]
  have hd : d = 1 ∨ d = 2 ∨ d = 3 ∨ d = 4 := by omega
  have he : e = 1 ∨ e = 2 ∨ e = 3 := by omega
  clear d1 d4 e1 e3 hv
  try rcases hd with rfl | rfl | rfl | rfl
  all_goals try rcases he with rfl | rfl | rfl
  all_goals first | decide | (simp <;> done) | grind
theorem gz_16 {i j k : Nat} {n d e : Int} (v : Nat → Int) (A B C : P3) (hA : A = fr i) (hB : B = fr j) (hC : C = fr k) (hv : VAt v i j k) (d1 : 1 ≤ d) (d4 : d ≤ 4) (e1 : 1 ≤ e) (e3 : e ≤ 3) : evX v (partX (partX A B n d) (partX A B n d) (0) (5)).w ≠ 0 := by
  subst hA hB hC
  simp only [fr, placedX, partX, shiftX, movedX, difX, difX, P3.at, evX, reduceIte, Nat.succ_ne_zero, Nat.zero_ne_one, Nat.one_ne_zero]
  try simp only [hv.a0, hv.a1, hv.b0, hv.b1, hv.c0, hv.c1]
  have hd : d = 1 ∨ d = 2 ∨ d = 3 ∨ d = 4 := by omega
  have he : e = 1 ∨ e = 2 ∨ e = 3 := by omega
  clear d1 d4 e1 e3 hv
  try rcases hd with rfl | rfl | rfl | rfl
  all_goals try rcases he with rfl | rfl | rfl
  all_goals first | decide | (simp <;> done) | grind
theorem good_nz {i j k : Nat} {n d e : Int} (v : Nat → Int) (hv : VAt v i j k) (d1 : 1 ≤ d) (d4 : d ≤ 4) (e1 : 1 ≤ e) (e3 : e ≤ 3) : ∀ x ∈ goodI, evX v (mkI (fr i) (fr j) (fr k) n d e x).w ≠ 0 := by
  intro x hx
  simp only [goodI, List.mem_cons, List.not_mem_nil, or_false] at hx
  rcases hx with rfl | rfl | rfl | rfl | rfl | rfl | rfl | rfl | rfl | rfl | rfl | rfl | rfl | rfl | rfl | rfl | rfl
  · exact gz_0 (i := i) (j := j) (k := k) (n := n) (d := d) (e := e) v _ _ _ rfl rfl rfl hv d1 d4 e1 e3
  · exact gz_1 (i := i) (j := j) (k := k) (n := n) (d := d) (e := e) v _ _ _ rfl rfl rfl hv d1 d4 e1 e3
  · exact gz_2 (i := i) (j := j) (k := k) (n := n) (d := d) (e := e) v _ _ _ rfl rfl rfl hv d1 d4 e1 e3
  · exact gz_3 (i := i) (j := j) (k := k) (n := n) (d := d) (e := e) v _ _ _ rfl rfl rfl hv d1 d4 e1 e3
  · exact gz_4 (i := i) (j := j) (k := k) (n := n) (d := d) (e := e) v _ _ _ rfl rfl rfl hv d1 d4 e1 e3
  · exact gz_5 (i := i) (j := j) (k := k) (n := n) (d := d) (e := e) v _ _ _ rfl rfl rfl hv d1 d4 e1 e3
  · exact gz_6 (i := i) (j := j) (k := k) (n := n) (d := d) (e := e) v _ _ _ rfl rfl rfl hv d1 d4 e1 e3
  · exact gz_7 (i := i) (j := j) (k := k) (n := n) (d := d) (e := e) v _ _ _ rfl rfl rfl hv d1 d4 e1 e3
  · exact gz_8 (i := i) (j := j) (k := k) (n := n) (d := d) (e := e) v _ _ _ rfl rfl rfl hv d1 d4 e1 e3
  · exact gz_9 (i := i) (j := j) (k := k) (n := n) (d := d) (e := e) v _ _ _ rfl rfl rfl hv d1 d4 e1 e3
  · exact gz_10 (i := i) (j := j) (k := k) (n := n) (d := d) (e := e) v _ _ _ rfl rfl rfl hv d1 d4 e1 e3
  · exact gz_11 (i := i) (j := j) (k := k) (n := n) (d := d) (e := e) v _ _ _ rfl rfl rfl hv d1 d4 e1 e3
  · exact gz_12 (i := i) (j := j) (k := k) (n := n) (d := d) (e := e) v _ _ _ rfl rfl rfl hv d1 d4 e1 e3
  · exact gz_13 (i := i) (j := j) (k := k) (n := n) (d := d) (e := e) v _ _ _ rfl rfl rfl hv d1 d4 e1 e3
  · exact gz_14 (i := i) (j := j) (k := k) (n := n) (d := d) (e := e) v _ _ _ rfl rfl rfl hv d1 d4 e1 e3
  · exact gz_15 (i := i) (j := j) (k := k) (n := n) (d := d) (e := e) v _ _ _ rfl rfl rfl hv d1 d4 e1 e3
  · exact gz_16 (i := i) (j := j) (k := k) (n := n) (d := d) (e := e) v _ _ _ rfl rfl rfl hv d1 d4 e1 e3

end CN

set_option Elab.async false
set_option linter.all false
set_option maxRecDepth 100000
set_option maxHeartbeats 4000000
set_option autoImplicit false
set_option pp.maxSteps 300
/-! A plan is built; what more can be added to it. -/
namespace CN
open PySem L2 K1D K2P
open K4 (isNm)
theorem perm2 {α : Type} {P : List α} {x y : α} (h : P.Perm [x, y]) : P = [x, y] ∨ P = [y, x] := by
  match P, h.length_eq with
  | [p, q], _ =>
    have hp := h.subset (List.mem_cons_self (a := p) (l := [q]))
    rcases List.mem_cons.mp hp with rfl | hp
    · have := (List.perm_cons p).mp h
      rw [List.perm_singleton.mp this]
      exact .inl rfl
    · obtain rfl := List.mem_singleton.mp hp
      have := (List.perm_cons p).mp (h.trans (List.Perm.swap p x []))
      rw [List.perm_singleton.mp this]
      exact .inr rfl
theorem perm3 {α : Type} {P : List α} {x y z : α} (h : P.Perm [x, y, z]) : P = [x, y, z] ∨ P = [x, z, y] ∨ P = [y, x, z] ∨ P = [y, z, x] ∨ P = [z, x, y] ∨ P = [z, y, x] := by
  match P, h.length_eq with
  | p :: Q, _ =>
    have hp := h.subset (List.mem_cons_self (a := p) (l := Q))
    rcases List.mem_cons.mp hp with rfl | hp
    · rcases perm2 ((List.perm_cons p).mp h) with rfl | rfl
      · exact .inl rfl
      · exact .inr (.inl rfl)
    rcases List.mem_cons.mp hp with rfl | hp
    · rcases perm2 ((List.perm_cons p).mp (h.trans (List.Perm.swap p x [z]))) with rfl | rfl
      · exact .inr (.inr (.inl rfl))
      · exact .inr (.inr (.inr (.inl rfl)))
    · obtain rfl := List.mem_singleton.mp hp
      have h2 : [x, y, p].Perm (p :: [x, y]) := ((List.Perm.swap p y []).cons x).trans (List.Perm.swap p x [y])
      rcases perm2 ((List.perm_cons p).mp (h.trans h2)) with rfl | rfl
      · exact .inr (.inr (.inr (.inr (.inl rfl))))
      · exact .inr (.inr (.inr (.inr (.inr rfl))))
/-! ### free points -/
theorem nz_one : NZ (.num 1) := nz_point (n := 0) (s := fun _ => 0) trivial (by decide) (by show (1 : Int) ≠ 0; decide)
theorem mk_fr (x : Str) (f : Str → Option P3) (k : Nat) : (frS x).mk3 f k = fr k := rfl
theorem new_fr (x : Str) : (newUnk (frS x)).length = 2 := newUnk_len _
theorem free_good {c : Cst} {x : Str} (nm : isNm x = true) (n : x ∉ c.names) (l : c.steps.length < 12) (u : c.unk.length + 2 ≤ 8) : AddGood c (frS x) :=
  ⟨⟨⟨rfl, rfl⟩, nm, n, fun _ m => (nomatch m), fun i k h => by cases i <;> cases h⟩, l, by rw [List.length_append, new_fr]; exact u, ⟨trivial, trivial, trivial⟩, nz_one⟩
structure Three (c : Cst) (x y z : Str) (i j k : Nat) : Prop where
  row : RowOk Cst.new c.steps
  at_ : c = Cst.new.adds c.steps
  px : c.pt x = some (fr i)
  py : c.pt y = some (fr j)
  pz : c.pt z = some (fr k)
  nm : ∀ t, t ∈ c.names ↔ t = x ∨ t = y ∨ t = z
  un : c.unk.length = 6
  ln : c.steps.length = 3
  ck : Cok c
theorem three_ok {x y z : Str} (hx : isNm x = true) (hy : isNm y = true) (hz : isNm z = true) (xy : x ≠ y) (xz : x ≠ z) (yz : y ≠ z) : Three (Cst.new.adds [frS x, frS y, frS z]) x y z 0 2 4 := by
  have g1 : AddGood Cst.new (frS x) := free_good hx (fun h => nomatch h) (by decide) (by decide)
  have n1 : (Cst.new.add (frS x)).names = [x] := rfl
  have u1 : (Cst.new.add (frS x)).unk.length = 2 := newUnk_len _
  have g2 : AddGood (Cst.new.add (frS x)) (frS y) := free_good hy (by rw [n1]; intro h; exact xy (List.mem_singleton.mp h).symm) (show 1 < 12 by decide) (by rw [u1]; decide)
  have n2 : ((Cst.new.add (frS x)).add (frS y)).names = [x, y] := rfl
  have u2 : ((Cst.new.add (frS x)).add (frS y)).unk.length = 4 := by show ((Cst.new.add (frS x)).unk ++ newUnk (frS y)).length = 4; rw [List.length_append, u1, new_fr]
  have g3 : AddGood ((Cst.new.add (frS x)).add (frS y)) (frS z) := free_good hz (by rw [n2]; intro h; rcases List.mem_cons.mp h with e | h; exact xz e.symm; exact yz (List.mem_singleton.mp h).symm) (show 2 < 12 by decide) (by rw [u2]; decide)
  have row : RowOk Cst.new [frS x, frS y, frS z] := ⟨g1, g2, g3, trivial⟩
  have e1 : Cst.new.mk3 (frS x) = fr 0 := rfl
  have e2 : (Cst.new.add (frS x)).mk3 (frS y) = fr 2 := by show fr (Cst.new.add (frS x)).unk.length = _; rw [u1]
  have e3 : ((Cst.new.add (frS x)).add (frS y)).mk3 (frS z) = fr 4 := by show fr ((Cst.new.add (frS x)).add (frS y)).unk.length = _; rw [u2]
  refine ⟨row, rfl, ?_, ?_, ?_, ?_, ?_, rfl, row.cok Cok.new⟩
  · show (((Cst.new.add (frS x)).add (frS y)).add (frS z)).pt x = _
    rw [pt_old (by rw [n2]; exact List.mem_cons_self), pt_old (by rw [n1]; exact List.mem_cons_self)]
    exact (pt_new (s := frS x) (c := Cst.new) (fun h => nomatch h)).trans (by rw [e1])
  · show (((Cst.new.add (frS x)).add (frS y)).add (frS z)).pt y = _
    rw [pt_old (by rw [n2]; exact List.mem_cons_of_mem _ List.mem_cons_self)]
    exact (pt_new (s := frS y) g2.rt.new).trans (by rw [e2])
  · show (((Cst.new.add (frS x)).add (frS y)).add (frS z)).pt z = _
    exact (pt_new (s := frS z) g3.rt.new).trans (by rw [e3])
  · intro t
    show t ∈ [x, y, z] ↔ _
    simp
  · show (((Cst.new.add (frS x)).add (frS y)).unk ++ newUnk (frS z)).length = 6
    rw [List.length_append, u2, new_fr]
theorem Three.swap {c : Cst} {x y z : Str} {i j k : Nat} (h : Three c x y z i j k) : Three c y x z j i k := ⟨h.row, h.at_, h.py, h.px, h.pz, fun t => (h.nm t).trans (by constructor <;> (rintro (a | a | a)) <;> simp [a]), h.un, h.ln, h.ck⟩
theorem Three.swap2 {c : Cst} {x y z : Str} {i j k : Nat} (h : Three c x y z i j k) : Three c x z y i k j := ⟨h.row, h.at_, h.px, h.pz, h.py, fun t => (h.nm t).trans (by constructor <;> (rintro (a | a | a)) <;> simp [a]), h.un, h.ln, h.ck⟩
/-- the free points' places among the unknowns -/
def Idx (i j k : Nat) : Prop := (i = 0 ∧ j = 2 ∧ k = 4) ∨ (i = 0 ∧ j = 4 ∧ k = 2) ∨ (i = 2 ∧ j = 0 ∧ k = 4) ∨ (i = 2 ∧ j = 4 ∧ k = 0) ∨ (i = 4 ∧ j = 0 ∧ k = 2) ∨ (i = 4 ∧ j = 2 ∧ k = 0)
theorem free_row {a b c : Str} {P : List Stp} (ha : isNm a = true) (hb : isNm b = true) (hc : isNm c = true) (ab : a ≠ b) (ac : a ≠ c) (bc : b ≠ c) (h : P.Perm [frS a, frS b, frS c]) : ∃ i j k, Idx i j k ∧ (Cst.new.adds P).steps = P ∧ Three (Cst.new.adds P) a b c i j k := by
  have st : ∀ x y z : Str, (Cst.new.adds [frS x, frS y, frS z]).steps = [frS x, frS y, frS z] := fun _ _ _ => rfl
  rcases perm3 h with rfl | rfl | rfl | rfl | rfl | rfl
  · exact ⟨0, 2, 4, .inl ⟨rfl, rfl, rfl⟩, rfl, three_ok ha hb hc ab ac bc⟩
  · exact ⟨0, 4, 2, .inr (.inl ⟨rfl, rfl, rfl⟩), rfl, (three_ok ha hc hb ac ab (Ne.symm bc)).swap2⟩
  · exact ⟨2, 0, 4, .inr (.inr (.inl ⟨rfl, rfl, rfl⟩)), rfl, (three_ok hb ha hc (Ne.symm ab) bc ac).swap⟩
  · exact ⟨4, 0, 2, .inr (.inr (.inr (.inr (.inl ⟨rfl, rfl, rfl⟩)))), rfl, (three_ok hb hc ha bc (Ne.symm ab) (Ne.symm ac)).swap2.swap⟩
  · exact ⟨2, 4, 0, .inr (.inr (.inr (.inl ⟨rfl, rfl, rfl⟩))), rfl, (three_ok hc ha hb (Ne.symm ac) (Ne.symm bc) ab).swap.swap2⟩
  · exact ⟨4, 2, 0, .inr (.inr (.inr (.inr (.inr ⟨rfl, rfl, rfl⟩)))), rfl, (three_ok hc hb ha (Ne.symm bc) (Ne.symm ac) (Ne.symm ab)).swap.swap2.swap⟩
/-! ### the whole plan -/
structure Six where
  a : Str
  b : Str
  c : Str
  l : Str
  m : Str
  z : Str
def Six.at (S : Six) : Nm → Str
  | .a => S.a | .b => S.b | .c => S.c | .l => S.l | .m => S.m | .z => S.z
def stI (S : Six) (p : Str) (x : Itm) : Stp := ⟨x.1, p, x.2.1.map S.at, x.2.2⟩
theorem bad_map (S : Six) (p : Str) : badL p S.a S.b S.c S.l S.m S.z = badI.map (stI S p) := rfl
theorem good_map (S : Six) (p : Str) : goodL p S.a S.b S.c S.l S.m S.z = goodI.map (stI S p) := rfl
structure PlanAt (S : Six) (i j k : Nat) (n d e : Int) (ss : List Stp) (c : Cst) : Prop where
  idx : Idx i j k
  n0 : -5 ≤ n
  n1 : n ≤ 5
  d0 : 1 ≤ d
  d1 : d ≤ 4
  e0 : 1 ≤ e
  e1 : e ≤ 3
  row : RowOk Cst.new ss
  at_ : c = Cst.new.adds ss
  ck : Cok c
  st : c.steps = ss
  pt : ∀ t, c.pt (S.at t) = some (ptI (fr i) (fr j) (fr k) n d e t)
  nm : ∀ x, x ∈ c.names ↔ ∃ t, x = S.at t
  un : c.unk.length = 6
  ln : ss.length = 6
theorem adds_app (c : Cst) (a b : List Stp) : c.adds (a ++ b) = (c.adds a).adds b := List.foldl_append
theorem Idx.lt {i j k : Nat} (h : Idx i j k) : i < 6 ∧ j < 6 ∧ k < 6 := by unfold Idx at h; omega
theorem part_moves {S : Six} {c : Cst} {i j k : Nat} {x : Str} {n d : Int} (T : Three c S.a S.b S.c i j k) (ix : Idx i j k) (nx : isNm x = true) (n0 : -5 ≤ n) (n1 : n ≤ 5) (d0 : 1 ≤ d) (d1 : d ≤ 4) : Moves [S.a, S.b, S.c] c.pt ⟨.part, x, [S.a, S.b], [n, d]⟩ ∧ (⟨.part, x, [S.a, S.b], [n, d]⟩ : Stp).mk3 c.pt 0 = partX (fr i) (fr j) n d := by
  have e : (⟨.part, x, [S.a, S.b], [n, d]⟩ : Stp).mk3 c.pt 0 = partX (fr i) (fr j) n d := by
    show mkP .part [(c.pt S.a).getD _, (c.pt S.b).getD _] [] [n, d] = _
    rw [T.px, T.py]
    rfl
  have L := ix.lt
  have q : Q3 8 (partX (fr i) (fr j) n d) := q_part (q_fr (by omega)) (q_fr (by omega)) (by omega) (by omega)
  have sz : szOk (partX (fr i) (fr j) n d) = true := by
    rw [← szOk_shp]
    show szOk (shp3 (partX (fr 0) (fr 0) 0 0)) = true
    decide +kernel
  refine ⟨⟨⟨rfl, rfl⟩, nx, fun y m => ?_, fun t u h => ?_, rfl, by rw [e]; exact fine_sz q sz, by rw [e]; exact nz_sz q sz (v := fun _ => 0) (by show (1 : Int) * 1 * d ≠ 0; omega)⟩, e⟩
  · rcases List.mem_cons.mp m with rfl | m
    · exact List.mem_cons_self
    · rw [List.mem_singleton.mp m]
      exact List.mem_cons_of_mem _ List.mem_cons_self
  · match t, h with
    | 0, h => cases h; exact ⟨by show -100 ≤ n; omega, by omega⟩
    | 1, h => cases h; exact ⟨by show 1 ≤ d; omega, by omega⟩
theorem shift_moves {S : Six} {c : Cst} {i j k : Nat} {x : Str} (T : Three c S.a S.b S.c i j k) (ix : Idx i j k) (nx : isNm x = true) : Moves [S.a, S.b, S.c] c.pt ⟨.shift, x, [S.c, S.a, S.b], []⟩ ∧ (⟨.shift, x, [S.c, S.a, S.b], []⟩ : Stp).mk3 c.pt 0 = shiftX (fr k) (fr i) (fr j) := by
  have e : (⟨.shift, x, [S.c, S.a, S.b], []⟩ : Stp).mk3 c.pt 0 = shiftX (fr k) (fr i) (fr j) := by
    show mkP .shift [(c.pt S.c).getD _, (c.pt S.a).getD _, (c.pt S.b).getD _] [] [] = _
    rw [T.px, T.py, T.pz]
    rfl
  have L := ix.lt
  have q : Q3 8 (shiftX (fr k) (fr i) (fr j)) := q_shift (q_fr (by omega)) (q_fr (by omega)) (q_fr (by omega))
  have sz : szOk (shiftX (fr k) (fr i) (fr j)) = true := by
    rw [← szOk_shp]
    show szOk (shp3 (shiftX (fr 0) (fr 0) (fr 0))) = true
    decide +kernel
  refine ⟨⟨⟨rfl, rfl⟩, nx, fun y m => ?_, fun t u h => (by cases t <;> cases h), rfl, by rw [e]; exact fine_sz q sz, by rw [e]; exact nz_sz q sz (v := fun _ => 0) (by show (1 : Int) * (1 * 1) ≠ 0; decide)⟩, e⟩
  rcases List.mem_cons.mp m with rfl | m
  · exact List.mem_cons_of_mem _ (List.mem_cons_of_mem _ List.mem_cons_self)
  rcases List.mem_cons.mp m with rfl | m
  · exact List.mem_cons_self
  · rw [List.mem_singleton.mp m]
    exact List.mem_cons_of_mem _ List.mem_cons_self
theorem plan_at {S : Six} {ss : List Stp} (nm : ∀ t, isNm (S.at t) = true) (inj : ∀ t u, S.at t = S.at u → t = u) (h : PlanOk S.a S.b S.c S.l S.m S.z ss) : ∃ i j k n d e c, PlanAt S i j k n d e ss c := by
  obtain ⟨n, d, e, P1, P2, n0, n1, d0, d1, e0, e1, p1, p2, rfl⟩ := h.ex
  have ne : ∀ t u, t ≠ u → S.at t ≠ S.at u := fun t u h q => h (inj t u q)
  obtain ⟨i, j, k, ix, st1, T⟩ := free_row (nm .a) (nm .b) (nm .c) (ne .a .b (by decide)) (ne .a .c (by decide)) (ne .b .c (by decide)) p1
  have ml := part_moves (x := S.l) (S := S) T ix (nm .l) n0 n1 d0 d1
  have mm := shift_moves (x := S.m) (S := S) T ix (nm .m)
  have mz := part_moves (x := S.z) (S := S) (n := 0) (d := e) T ix (nm .z) (by decide) (by decide) e0 (by omega)
  have mem : ∀ s ∈ P2, s = ⟨.part, S.l, [S.a, S.b], [n, d]⟩ ∨ s = ⟨.shift, S.m, [S.c, S.a, S.b], []⟩ ∨ s = ⟨.part, S.z, [S.a, S.b], [0, e]⟩ := fun s hs => by
    have := p2.subset hs
    simpa using this
  have nms : P2.map (·.nm) |>.Perm [S.l, S.m, S.z] := p2.map (·.nm)
  have nd : (P2.map (·.nm)).Nodup := nms.nodup_iff.mpr (by
    refine List.nodup_cons.mpr ⟨fun m => ?_, List.nodup_cons.mpr ⟨fun m => ?_, nd_one _⟩⟩
    · rcases List.mem_cons.mp m with m | m
      · exact ne .l .m (by decide) m
      · exact ne .l .z (by decide) (List.mem_singleton.mp m)
    · exact ne .m .z (by decide) (List.mem_singleton.mp m))
  have new : ∀ s ∈ P2, s.nm ∉ (Cst.new.adds P1).names := fun s hs q => by
    have q := (T.nm s.nm).mp q
    rcases mem s hs with rfl | rfl | rfl
    · rcases q with q | q | q
      · exact ne .l .a (by decide) q
      · exact ne .l .b (by decide) q
      · exact ne .l .c (by decide) q
    · rcases q with q | q | q
      · exact ne .m .a (by decide) q
      · exact ne .m .b (by decide) q
      · exact ne .m .c (by decide) q
    · rcases q with q | q | q
      · exact ne .z .a (by decide) q
      · exact ne .z .b (by decide) q
      · exact ne .z .c (by decide) q
  have l2 : P2.length = 3 := p2.length_eq
  have l1 : P1.length = 3 := p1.length_eq
  have A := moves_ok (names0 := [S.a, S.b, S.c]) (pt0 := (Cst.new.adds P1).pt) (ss := P2) (c := Cst.new.adds P1) (fun x m => (T.nm x).mpr (show x = S.a ∨ x = S.b ∨ x = S.c by simpa using m)) (fun _ _ => rfl) (fun s hs => by
    rcases mem s hs with rfl | rfl | rfl
    · exact ml.1
    · exact mm.1
    · exact mz.1) nd new (by rw [T.ln, l2]; decide) (by rw [T.un]; decide)
  have row1 : RowOk Cst.new P1 := by have := T.row; rw [st1] at this; exact this
  have row : RowOk Cst.new (P1 ++ P2) := row1.app A.row
  have ex : (Cst.new.adds (P1 ++ P2)) = (Cst.new.adds P1).adds P2 := adds_app _ _ _
  have pl : (⟨.part, S.l, [S.a, S.b], [n, d]⟩ : Stp) ∈ P2 := p2.symm.subset (by simp)
  have pm : (⟨.shift, S.m, [S.c, S.a, S.b], []⟩ : Stp) ∈ P2 := p2.symm.subset (by simp)
  have pz : (⟨.part, S.z, [S.a, S.b], [0, e]⟩ : Stp) ∈ P2 := p2.symm.subset (by simp)
  refine ⟨i, j, k, n, d, e, _, ix, n0, n1, d0, d1, e0, e1, row, rfl, row.cok Cok.new, ?_, fun t => ?_, fun x => ?_, ?_, by rw [List.length_append, l1, l2]⟩
  · rw [ex, A.st, st1]
  · rw [ex]
    cases t with
    | a => exact (A.old _ ((T.nm _).mpr (.inl rfl))).trans T.px
    | b => exact (A.old _ ((T.nm _).mpr (.inr (.inl rfl)))).trans T.py
    | c => exact (A.old _ ((T.nm _).mpr (.inr (.inr rfl)))).trans T.pz
    | l => exact (A.new _ pl).trans (congrArg some ml.2)
    | m => exact (A.new _ pm).trans (congrArg some mm.2)
    | z => exact (A.new _ pz).trans (congrArg some mz.2)
  · rw [ex, A.nm, List.mem_append, T.nm, nms.mem_iff]
    constructor
    · rintro ((q | q | q) | q)
      · exact ⟨.a, q⟩
      · exact ⟨.b, q⟩
      · exact ⟨.c, q⟩
      · rcases List.mem_cons.mp q with q | q
        · exact ⟨.l, q⟩
        rcases List.mem_cons.mp q with q | q
        · exact ⟨.m, q⟩
        · exact ⟨.z, List.mem_singleton.mp q⟩
    · rintro ⟨t, rfl⟩
      cases t
      · exact .inl (.inl rfl)
      · exact .inl (.inr (.inl rfl))
      · exact .inl (.inr (.inr rfl))
      · exact .inr List.mem_cons_self
      · exact .inr (List.mem_cons_of_mem _ List.mem_cons_self)
      · exact .inr (List.mem_cons_of_mem _ (List.mem_cons_of_mem _ List.mem_cons_self))
  · rw [ex, A.un, T.un]
/-! ### one step more -/
def nuI (x : Itm) : Bool := match x.2.2 with
  | [] => true
  | [n, d] => decide (-100 ≤ n) && (decide (n ≤ 100) && (decide (1 ≤ d) && decide (d ≤ 100)))
  | _ => false
theorem all_nu : ∀ x ∈ badI ++ goodI, nuI x = true := by decide +kernel
theorem Idx.at {i j k : Nat} (h : Idx i j k) : ∃ v : Nat → Int, VAt v i j k := by
  refine ⟨fun t => if t = j then 1 else if t = k + 1 then 1 else 0, ?_⟩
  rcases h with ⟨rfl, rfl, rfl⟩ | ⟨rfl, rfl, rfl⟩ | ⟨rfl, rfl, rfl⟩ | ⟨rfl, rfl, rfl⟩ | ⟨rfl, rfl, rfl⟩ | ⟨rfl, rfl, rfl⟩ <;> exact ⟨by decide, by decide, by decide, by decide, by decide, by decide⟩
section
variable {S : Six} {i j k : Nat} {n d e : Int} {ss : List Stp} {c : Cst} {p : Str} {x : Itm}
theorem okI_lens (h : okI x = true) : x.2.1.length = arP x.1 ∧ arU x.1 = 0 ∧ x.2.2.length = arN x.1 ∧ ∀ t ∈ x.2.2, t.natAbs < 128 := by
  unfold okI at h
  simp only [Bool.and_eq_true, decide_eq_true_eq, List.all_eq_true] at h
  exact ⟨h.1, h.2.1, h.2.2.1, h.2.2.2.2⟩
theorem item_shp (h : okI x = true) : (stI S p x).Shp := ⟨by show (x.2.1.map S.at).length = _; rw [List.length_map]; exact (okI_lens h).1, (okI_lens h).2.2.1⟩
theorem item_mk (P : PlanAt S i j k n d e ss c) (h : okI x = true) : c.mk3 (stI S p x) = mkI (fr i) (fr j) (fr k) n d e x := by
  have u := (okI_lens h).2.1
  show mkP x.1 ((x.2.1.map S.at).map fun y => (c.pt y).getD _) (varsX c.unk.length (arU x.1)) x.2.2 = mkP x.1 (x.2.1.map (ptI (fr i) (fr j) (fr k) n d e)) (varsX 0 (arU x.1)) x.2.2
  rw [u, List.map_map]
  have : ((fun y => (c.pt y).getD (placedX (.num 0) (.num 0))) ∘ S.at) = ptI (fr i) (fr j) (fr k) n d e := by
    funext t
    show (c.pt (S.at t)).getD _ = _
    rw [P.pt t]
    rfl
  rw [this]
  rfl
theorem item_q (P : PlanAt S i j k n d e ss c) (h : okI x = true) : Q3 8 (mkI (fr i) (fr j) (fr k) n d e x) := by
  have L := P.idx.lt
  obtain ⟨_, u, _, ns⟩ := okI_lens h
  have a1 := P.n0
  have a2 := P.n1
  have a3 := P.d0
  have a4 := P.d1
  have a5 := P.e0
  have a6 := P.e1
  refine q_mk _ _ _ _ (fun q m => ?_) (fun q m => ?_) ns
  · obtain ⟨t, _, rfl⟩ := List.mem_map.mp m
    exact q_pt L.1 L.2.1 L.2.2 (by omega) (by omega) (by omega) t
  · rw [u] at m
    cases m
theorem item_right (P : PlanAt S i j k n d e ss c) (h : okI x = true) (hn : nuI x = true) (np : isNm p = true) (new : ∀ t, p ≠ S.at t) : Right c.names (stI S p x) := by
  refine ⟨item_shp h, np, fun m => ?_, fun y m => ?_, fun t u hu => ?_⟩
  · obtain ⟨t, e⟩ := (P.nm _).mp m
    exact new t e
  · obtain ⟨t, _, rfl⟩ := List.mem_map.mp m
    exact (P.nm _).mpr ⟨t, rfl⟩
  · have hu : x.2.2[t]? = some u := hu
    unfold nuI at hn
    split at hn
    · rename_i hx
      rw [hx] at hu
      cases hu
    · rename_i n d hx
      rw [hx] at hu
      simp only [Bool.and_eq_true, decide_eq_true_eq] at hn
      match t, hu with
      | 0, hu => cases hu; exact ⟨hn.1, hn.2.1⟩
      | 1, hu => cases hu; exact ⟨hn.2.2.1, hn.2.2.2⟩
    · cases hn
theorem bad_item (P : PlanAt S i j k n d e ss c) (h : x ∈ badI) (np : isNm p = true) (new : ∀ t, p ≠ S.at t) : Right c.names (stI S p x) ∧ Fine3 (c.mk3 (stI S p x)) ∧ ∀ v, evX v (c.mk3 (stI S p x)).w = 0 := by
  have ok := all_ok x (List.mem_append_left _ h)
  refine ⟨item_right P ok (all_nu x (List.mem_append_left _ h)) np new, ?_, fun v => ?_⟩
  · rw [item_mk P ok]
    exact fine_sz (item_q P ok) (sz_item ok)
  · rw [item_mk P ok]
    exact bad_zero v x h
theorem good_item (P : PlanAt S i j k n d e ss c) (h : x ∈ goodI) (np : isNm p = true) (new : ∀ t, p ≠ S.at t) : AddGood c (stI S p x) := by
  have ok := all_ok x (List.mem_append_right _ h)
  have st := P.st
  have ln := P.ln
  obtain ⟨v, hv⟩ := P.idx.at
  refine ⟨item_right P ok (all_nu x (List.mem_append_right _ h)) np new, by rw [st, ln]; decide, ?_, ?_, ?_⟩
  · rw [new_none (s := stI S p x) (okI_lens ok).2.1, List.append_nil, P.un]
    decide
  · rw [item_mk P ok]
    exact fine_sz (item_q P ok) (sz_item ok)
  · rw [item_mk P ok]
    exact nz_sz (item_q P ok) (sz_item ok) (good_nz v hv P.d0 P.d1 P.e0 P.e1 x h)
end
end CN

set_option Elab.async false
set_option linter.all false
set_option maxRecDepth 100000
set_option maxHeartbeats 4000000
set_option autoImplicit false
set_option pp.maxSteps 300
/-! The law builds a plan. -/
namespace CN
open PySem L2 K1D K2P
open K4 (isNm)
abbrev sLB : Stmt := K2P.top 68
def rListQ (K : PySem.W.Frag) : List V → Hp → VK → Prop := fun xs H Q => ∃ p ys, xs = [.ref p] ∧ (SqL K H p ys ∨ SqT K H p ys) ∧ ∀ l, H l = none → Q (.ref l) (upd H l (.lst ys))
theorem call_listQ {X : Cx} : CallR X (.type "list") (rListQ X.K) := call_list_of
def spLB (C : Addr) : Sp := fun vs H Q _ => ∃ (p l A : Addr) (us : List V) (ss : List Stp), vs = [.ref p, .ref A] ∧ SrcL H p l ∧ H A = some (.lst us) ∧ A ≠ p ∧ A ≠ l ∧ Paired (StepAt H) us ss ∧ RowOk Cst.new ss ∧ ss.length ≤ 100 ∧
  ∀ (o : Own) (G : Hp), SrcL G p l → Bt p l H G → o.New H → ConAt C G o (Cst.new.adds ss) → Q (.ref o.p) G
theorem ConAt.bt {C : Addr} {H G : Hp} {o : Own} {c : Cst} {p l : Addr} (h : ConAt C H o c) (b : Bt p l H G) (src : SrcL H p l) (n : ∀ x, x = o.p ∨ x = o.s ∨ x = o.u ∨ x = o.t → x ≠ p ∧ x ≠ l) : ConAt C G o c := by
  have f : ∀ x, x = o.p ∨ x = o.s ∨ x = o.u ∨ x = o.t → x ∉ [p, l] := fun x e m => by
    rcases List.mem_cons.mp m with q | m
    · exact (n x e).1 q
    · exact (n x e).2 (List.mem_singleton.mp m)
  exact h.chg b.chg src.loose ⟨f _ (.inl rfl), f _ (.inr (.inl rfl)), f _ (.inr (.inr (.inl rfl))), f _ (.inr (.inr (.inr rfl)))⟩
theorem Own.New.off {o : Own} {H : Hp} {p l : Addr} (h : o.New H) (src : SrcL H p l) : ∀ x, x = o.p ∨ x = o.s ∨ x = o.u ∨ x = o.t → x ≠ p ∧ x ≠ l := fun x e => by
  obtain ⟨a, b, c, xs, h1, h2, _⟩ := src
  have z : H x = none := by
    rcases e with rfl | rfl | rfl | rfl
    · exact h.p
    · exact h.s
    · exact h.u
    · exact h.t
  exact ⟨fun q => (by rw [q, h1] at z; cases z), fun q => (by rw [q, h2] at z; cases z)⟩
theorem SrcL.chg {H G : Hp} {D : List Addr} {p l : Addr} (h : SrcL H p l) (c : Chg D H G) (np : p ∉ D) (nl : l ∉ D) : SrcL G p l := by
  obtain ⟨a, b, cc, xs, h1, h2, r⟩ := h
  exact ⟨a, b, cc, xs, c _ _ h1 np, c _ _ h2 nl, r⟩
theorem SeqV.bt {H G : Hp} {p l : Addr} {v : V} {s : Stp} (h : StepAt H v s) (b : Bt p l H G) (src : SrcL H p l) : StepAt G v s := StepAt.bt h b src
def LstAt (D : Addr) (G : Hp) (v : V) (s : Stp) : Prop := ∃ a, v = .ref a ∧ a ≠ D ∧ G a = some (.lst s.vals)
section
variable {P : Program} {w : World} {K : PySem.W.Frag} {mg : Str → Option Value} {base : Heap} {C CS CI CM CV fD fB fA fU : Addr} {dD dB dA dU : FuncData}
/-- a function that may raise -/
structure CallX (P : Program) (w : World) (K : PySem.W.Frag) (mg : Str → Option Value) (base : Heap) (k : Nat) (x : Str) (ps : List Str) (sp : Sp) (f : Addr) (d : FuncData) : Prop where
  ok : FnOk P w K mg base (L2N.CX P w) k f d ps sp
  b : Binds K d ps []
  g : mg x = some (.ref f)
  k : PySem.W.keepIn K (.ref f) = true
theorem scLB : FnScope ["src", "plan", "step", "made_v"] ["src", "plan"] (defScope sLB) := ⟨rfl, rfl, rfl, by decide +kernel, rfl, by decide +kernel, by decide +kernel⟩
theorem ok_lb {f : Addr} {fd : FuncData} (F : Fun K "_law_build" "_law_build" sLB f fd) (T : ListTxt mg) (CT : ConTxt K mg C) (MC : Mk K C fU) (UI : InitT P w K mg base 1 ["self"] (spCInit C) fU dU) (UD : CallT P w K mg base CX0 1 "_law_draw" ["src", "many"] spDraw fD dD)
    (UB : CallX P w K mg base 11 "built" ["steps"] (spBuilt C CS CI CM CV) fB dB) (UA : MethX P w K mg base C 10 "add" ["self", "step"] (spAdd C CS CI CM) fA dA) : FnOk P w K mg base CX0 12 f fd ["src", "plan"] (spLB C) := by
  refine F.ok scLB (fun vs H Q E h => ?_) (fun cdv Ar outer s H vs Q E hr h => ?_)
  · obtain ⟨p, l, A, us, ss, rfl, _⟩ := h
    rfl
  · obtain ⟨p, l, A, us, ss, rfl, src, hA, Ap, Al, hu, row, l100, go⟩ := h
    refine ⟨_, (pss_cons (ps_if (pt_cmpR op_eq (pe_call UD.ok (hr.mono (by decide)) rfl UD.g UD.k UD.b .nil pass0 (pa_cons (pv 0) (pa_cons pe_int pa_nil))) pe_int (nomark _)) (pss_one (ps_ret (pe_callS (E := fun _ => E0) UB.ok (hr.mono (by decide)) rfl UB.g UB.k UB.b (fun σ => L2N.passAt takes0N σ) (pa_cons (pe_lc (own := [("step", 2)]) (g := (gName 2)) (tt := tYes) (te := (tCB (rListQ K) (tCons (tVar 2) tNil))) rfl scLB.nd (pi_list (pv 1)) (blkOk_by (own := [("step", 2)]) (N := ["src", "plan", "step", "made_v"]) (sc := defScope sLB) (by decide +kernel)) (fun _ _ _ _ _ => (pg_name (i := 2) scLB.nd rfl (Or.inl rfl))) (fun _ _ _ _ _ => pts_nil) (fun _ _ _ _ _ => (pe_callTy call_listQ (by rfl) T.list (by decide +kernel) (pa_cons (pv 2) pa_nil)))) pa_nil)))) pss_nil)
      (pss_cons (ps_set (i := 3) scLB.nd rfl (Or.inl rfl) (pe_make0 MC UI.ok (hr.mono (by decide)) rfl CT.gC UI.b .nil pass0))
      (pss_cons (ps_for PassesOwn.never rfl (pi_list (pv 1)) (pg_name (i := 2) scLB.nd rfl (Or.inl rfl)) (pss_one (ps_expr (pe_methE (E := fun _ => E0) (pv 3) CT.cl UA.m UA.ok (hr.mono (by decide)) UA.b (fun σ => L2N.passAt takes0N σ) (pa_cons (pe_ifExp (pt_cmpR op_gt (pe_call UD.ok (hr.mono (by decide)) rfl UD.g UD.k UD.b .nil pass0 (pa_cons (pv 0) (pa_cons pe_int pa_nil))) pe_int (nomark _)) (pv 2) (pe_callTy call_listQ (by rfl) T.list (by decide +kernel) (pa_cons (pv 2) pa_nil))) pa_nil)))))
      (pss_one (ps_ret (pv 3)))))), ?_⟩
    have lu : us.length = ss.length := Paired.length hu
    refine ⟨_, rfl, p, l, 3, rfl, src, by decide, by decide, fun n0 G0 n00 n01 src0 b0 => ⟨rfl, _, rfl, ?_⟩⟩
    have hA0 := b0 _ _ Ap Al hA
    have hu0 := pair_imp (fun _ _ q => StepAt.bt q b0 src) hu
    refine ite2 (fun _ => ?_) (fun _ => ?_)
    · refine ⟨_, rfl, A, rfl, ⟨_, SqL.of hA0⟩, fun D nD => ?_⟩
      refine lc_it (walk_list (K := K) (a := A) (xs := us)) (fun i G => Same G0 G ∧ ∃ ws, G D = some (.lst ws) ∧ Paired (LstAt D G) ws (ss.take i)) ⟨same_new nD, [], upd_same, .nil⟩ (fun i G _ h => SqL.of (h.1 _ _ hA0)) (fun i y G G' hi ⟨sG, ws, hD, hw⟩ ⟨e, hy⟩ => ?_) (fun G ⟨sG, ws, hD, hw⟩ => ?_)
      · subst e
        have hy : us[i]? = some y := hy
        have il : i < ss.length := by rw [← lu]; exact hi
        have hs := List.getElem?_eq_getElem il
        obtain ⟨t, rfl, ht⟩ := pair_get hu0 hy hs
        refine ⟨rfl, _, rfl, t, _, rfl, .inr (SqT.of (sG _ _ ht)), fun L nL => ?_⟩
        have s2 := same_new (o := .lst (ss[i].vals)) nL
        have hD2 := s2 _ _ hD
        have LD : L ≠ D := fun z => by rw [z, hD] at nL; cases nL
        have lw : ws.length = i := by
          have := Paired.length hw
          rw [List.length_take] at this
          omega
        refine ⟨ws, hD2, by rw [lw, sizeLine_eq]; omega, fun b o q => (upd_ne (ne_of_none q nD)).trans (s2 _ _ (sG _ _ q)), ws ++ [.ref L], upd_same, ?_⟩
        rw [K2P.take_snoc hs]
        exact pair_snoc ⟨L, rfl, LD, (upd_ne LD).trans upd_same⟩ (pair_imp (fun v s ⟨a, e, n, q⟩ => ⟨a, e, n, (upd_ne n).trans (s2 _ _ q)⟩) hw)
      · rw [lu, List.take_length] at hw
        have hw2 : Paired (fun v (s : Stp) => SeqV G v s.vals) ws ss := pair_imp (fun v s ⟨a, e, n, q⟩ => ⟨a, e, .inl q⟩) hw
        refine ⟨.ref D, rfl, .inr ⟨ws, ⟨D, rfl, .inl hD⟩, ?_⟩⟩
        have e0 : ws = ws ++ [] := (List.append_nil _).symm
        rw [e0]
        refine RowOk.out Cok.new row hw2 ?_
        intro o F hc ck sF on
        have s2 := sG.trans sF
        refine go o F (src0.same s2) (b0.trans (Bt.same s2)) ?_ hc
        have up : ∀ x, x = o.p ∨ x = o.s ∨ x = o.u ∨ x = o.t → G x = none → H x = none := fun x e z => by
          have off := on.off (src0.same sG) x e
          cases q : H x with
          | none => rfl
          | some y => rw [sG _ _ (b0 _ _ off.1 off.2 q)] at z; cases z
        exact ⟨up _ (.inl rfl) on.p, up _ (.inr (.inl rfl)) on.s, up _ (.inr (.inr (.inl rfl))) on.u, up _ (.inr (.inr (.inr rfl))) on.t⟩
    · intro x1 d1 nx nd ne
      have s0 : Same G0 (upd (upd G0 d1 (.own x1)) x1 (.ins C d1 [])) := fun b z q => (upd_ne (ne_of_none q nx)).trans ((upd_ne (ne_of_none q nd)).trans q)
      have old : ∀ b, upd (upd G0 d1 (.own x1)) x1 (.ins C d1 []) b = none → G0 b = none := fun b z => none_up s0 z
      refine ⟨x1, d1, rfl, upd_same, fun o1 G1 ep c1 k1 n1 n2 n3 => ⟨rfl, ?_⟩⟩
      have s1 : Same G0 G1 := fun b z q => k1 _ _ (s0 _ _ q) (ne_of_none q nx)
      have on1 : o1.New G0 := ⟨by rw [ep]; exact nx, old _ n1, old _ n2, old _ n3⟩
      have lm : ∀ o : Own, (cF o).lookup ("add" : Str) = none := fun o => f_none (by decide +kernel) (by decide +kernel) (by decide +kernel)
      refine ⟨_, rfl, A, rfl, ⟨_, SqL.of (s1 _ _ hA0)⟩, ?_⟩
      refine for_it (walk_list (K := K) (a := A) (xs := us)) (fun i σ G => ∃ (u : Option V) (o : Own), σ = [some (.ref p), some (.ref A), u, some (.ref o.p)] ∧ SrcL G p l ∧ Bt p l G0 G ∧ o.New G0 ∧ ConAt C G o (Cst.new.adds (ss.take i)) ∧ Cok (Cst.new.adds (ss.take i)) ∧ RowOk (Cst.new.adds (ss.take i)) (ss.drop i))
        ⟨_, o1, by rw [ep]; rfl, src0.same s1, Bt.same s1, on1, c1, Cok.new, row⟩ (fun i σ G hi ⟨u, o, hσ, sr, bG, _⟩ => SqL.of (bG _ _ Ap Al hA0)) (fun i y σ G G' hi ⟨u, o, hσ, sr, bG, on, hc, ck, ro⟩ ⟨e, hy⟩ => ?_) (fun σ G ⟨u, o, hσ, sr, bG, on, hc, ck, ro⟩ => ?_)
      · subst hσ e
        have hy : us[i]? = some y := hy
        have il : i < ss.length := by rw [← lu]; exact hi
        have hs := List.getElem?_eq_getElem il
        rw [List.drop_eq_getElem_cons il] at ro
        obtain ⟨t, rfl, ht⟩ := pair_get hu0 hy hs
        generalize ss[i] = st at hs ht ro
        have ht' : G' t = some (.tup st.vals) := bG _ _ (fun z => by obtain ⟨_, _, _, _, k, _⟩ := src0; rw [z, k] at ht; cases ht) (fun z => by obtain ⟨_, _, _, _, _, k, _⟩ := src0; rw [z, k] at ht; cases ht) ht
        have stE : StepAt G' (.ref t) st := ⟨t, rfl, ht'⟩
        obtain ⟨dx, hob⟩ := hc.ob
        have off0 := on.off src0
        refine ⟨_, rfl, o.p, dx, _, rfl, hob, lm o, _, rfl, p, l, 4, rfl, sr, by decide, by decide, fun m0 G2 m00 m01 sr2 b2 => ⟨_, _, rfl, rfl, _, rfl, ?_⟩⟩
        have hc2 := hc.bt b2 sr off0
        have b02 := bG.trans b2
        have st2 := stE.bt b2 sr
        have go2 : ∀ (x : V) (G3 : Hp), Same G2 G3 → SeqV G3 x st.vals → spAdd C CS CI CM [.ref o.p, x] G3 (fun v H1 => ∃ (u : Option V) (o2 : Own), ([some (.ref p), some (.ref A), some (.ref t), some (.ref o.p)] : L2.St) = [some (.ref p), some (.ref A), u, some (.ref o2.p)] ∧ SrcL H1 p l ∧ Bt p l G0 H1 ∧ o2.New G0 ∧ ConAt C H1 o2 (Cst.new.adds (ss.take (i + 1))) ∧ Cok (Cst.new.adds (ss.take (i + 1))) ∧ RowOk (Cst.new.adds (ss.take (i + 1))) (ss.drop (i + 1))) E0 := fun x G3 s3 sq => by
          have ex : Cst.new.adds (ss.take (i + 1)) = (Cst.new.adds (ss.take i)).add st := by rw [K2P.take_snoc hs, adds_app]; rfl
          refine AddOut.sp (K := fun c' => c' = (Cst.new.adds (ss.take i)).add st) (Same.refl G3) (hc2.up s3) ck (ro.1.out ck sq rfl) fun st' ck2 eq F2 u2 c2 cg nu => ?_
          rw [eq] at c2 ck2
          have sr3 := sr2.same s3
          have mem : ∀ x, x ∈ [o.p, o.s, o.t] → G0 x = none := fun x m => by
            rcases List.mem_cons.mp m with rfl | m
            · exact on.p
            rcases List.mem_cons.mp m with rfl | m
            · exact on.s
            · obtain rfl := List.mem_singleton.mp m
              exact on.t
          have b03 : Bt p l G0 F2 := fun b x n1 n2 q => cg b x (s3 _ _ (b02 b x n1 n2 q)) fun m => by rw [mem b m] at q; cases q
          have np : p ∉ [o.p, o.s, o.t] := fun m => by
            obtain ⟨_, _, _, _, k, _⟩ := src0
            rw [mem p m] at k; cases k
          have nl : l ∉ [o.p, o.s, o.t] := fun m => by
            obtain ⟨_, _, _, _, _, k, _⟩ := src0
            rw [mem l m] at k; cases k
          have nu0 : G0 u2 = none := by
            have off := sr3.ne nu
            cases q : G0 u2 with
            | none => rfl
            | some y => rw [s3 _ _ (b02 _ _ off.1 off.2 q)] at nu; cases nu
          rw [ex]
          exact ⟨_, ⟨o.p, o.s, u2, o.t⟩, rfl, sr3.chg cg np nl, b03, ⟨on.p, on.s, nu0, on.t⟩, c2, ck2, ro.2⟩
        refine ite2 (fun _ => ⟨_, rfl, ?_⟩) (fun _ => ?_)
        · exact go2 _ _ (Same.refl _) st2.seq
        · obtain ⟨t2, e2, q2⟩ := st2
          cases e2
          exact ⟨_, rfl, t, _, rfl, .inr (SqT.of q2), fun L nL => go2 _ _ (same_new nL) ⟨L, rfl, .inl upd_same⟩⟩
      · subst hσ
        rw [lu, List.take_length] at hc
        refine ⟨_, rfl, go o G sr (b0.trans bG) ?_ hc⟩
        have up : ∀ x, x = o.p ∨ x = o.s ∨ x = o.u ∨ x = o.t → G0 x = none → H x = none := fun x e z => by
          have off := on.off src0 x e
          cases q : H x with
          | none => rfl
          | some y => rw [b0 _ _ off.1 off.2 q] at z; cases z
        exact ⟨up _ (.inl rfl) on.p, up _ (.inr (.inl rfl)) on.s, up _ (.inr (.inr (.inl rfl))) on.u, up _ (.inr (.inr (.inr rfl))) on.t⟩
end
end CN

set_option Elab.async false
set_option linter.all false
set_option maxRecDepth 100000
set_option maxHeartbeats 4000000
set_option autoImplicit false
set_option pp.maxSteps 300
/-! A step is refused, a row is not built. -/
namespace CN
open PySem L2 K1D K2P
open K4 (isNm)
abbrev sRef : Stmt := K2P.top 73
abbrev sNotB : Stmt := K2P.top 74
def spRef (C CS CI CM : Addr) : Sp := fun vs H Q _ => ∃ (o : Own) (c : Cst) (x : V) (s : Stp) (due : Str), vs = [.ref o.p, x, .str due] ∧ ConAt C H o c ∧ Cok c ∧ StepAt H x s ∧ s.nm.length ≤ 1000 ∧
  ((due = "impossible" ∧ ∀ E, Raises CI "name" (.str s.nm) H E → AddOut CS CI CM H E c x (fun _ => False)) ∨ (due = "step" ∧ ∀ E, Raises CS "at" (.int ((1 : Nat) : Int)) H E → AddOut CS CI CM H E c x (fun _ => False)) ∨
   (due = "points" ∧ ∀ E, Raises CM "word" (.str "points") H E → AddOut CS CI CM H E c x (fun _ => False))) ∧ ∀ G, Same H G → Q (.bl true) G
def spNotB (CS CI CM : Addr) : Sp := fun vs H Q _ => ∃ (A : Addr) (us : List V) (ss : List Stp) (x : V) (s : Stp), vs = [.ref A, x] ∧ H A = some (.lst us) ∧ Paired (StepAt H) us ss ∧ RowOk Cst.new ss ∧ ss.length ≤ 100 ∧ StepAt H x s ∧ s.nm.length ≤ 1000 ∧
  (∀ (G : Hp) (E : XK), Same H G → Raises CI "name" (.str s.nm) G E → AddOut CS CI CM G E (Cst.new.adds ss) x (fun _ => False)) ∧ ∀ G, Same H G → Q (.bl true) G
/-- of the error classes, one against another -/
structure KitT (K : PySem.W.Frag) (CS CI CM : Addr) : Prop where
  ii : PySem.W.kitOne K (.ref CI) (.ref CI) = some true
  is : PySem.W.kitOne K (.ref CI) (.ref CS) = some false
  ss : PySem.W.kitOne K (.ref CS) (.ref CS) = some true
  si : PySem.W.kitOne K (.ref CS) (.ref CI) = some false
  mm : PySem.W.kitOne K (.ref CM) (.ref CM) = some true
  mi : PySem.W.kitOne K (.ref CM) (.ref CI) = some false
theorem same_xd {H G : Hp} {dd : Addr} {o : HO} (s : Same H G) (n : G dd = none) : Same H (upd G dd o) := s.trans (same_new n)
section
variable {P : Program} {w : World} {K : PySem.W.Frag} {mg : Str → Option Value} {base : Heap} {B C CS CI CM CV fA fB fH fS fI fM : Addr} {dA dB dH dS dI dM : FuncData}
theorem scRef : FnScope ["made_v", "step", "due", "e"] ["made_v", "step", "due"] (defScope sRef) := ⟨rfl, rfl, rfl, by decide +kernel, rfl, by decide +kernel, by decide +kernel⟩
theorem scNotB : FnScope ["plan", "step", "e"] ["plan", "step"] (defScope sNotB) := ⟨rfl, rfl, rfl, by decide +kernel, rfl, by decide +kernel, by decide +kernel⟩
theorem ok_ref {f : Addr} {fd : FuncData} (F : Fun K "_law_refused" "_law_refused" sRef f fd) (T : KindTxt K mg) (CT : ConTxt K mg C) (gB : mg "FigureError" = some (.ref B)) (BS : ErrT P w K mg base "BadStep" "at" B CS fS dS) (IM : ErrT P w K mg base "Impossible" "name" B CI fI dI) (TM : ErrT P w K mg base "TooMany" "word" B CM fM dM) (KT : KitT K CS CI CM)
    (UA : MethX P w K mg base C 10 "add" ["self", "step"] (spAdd C CS CI CM) fA dA) (UH : HotT P w K mg base 2 "_law_same" ["told", "due"] (spSame 0) fH dH) : FnOk P w K mg base CX0 11 f fd ["made_v", "step", "due"] (spRef C CS CI CM) := by
  refine F.ok scRef (fun vs H Q E h => ?_) (fun cdv A outer s H vs Q E hr h => ?_)
  · obtain ⟨o, c, x, s, due, rfl, _⟩ := h
    rfl
  · obtain ⟨o, c, x, st, due, rfl, hc, ck, sx, ln, out, go⟩ := h
    have h2 : Room 2 _ := hr.mono (by decide)
    refine ⟨_, (pss_cons (L2N.ps_try_as (i := 3) (ts := fun a cls d => tSeq (tIfS (tTest (tOp rEq (tVar 2) (tC (.str "impossible")))) (tRet (tAndV (tCB (rErrIs K cls a d) (tCons (tVar 3) (tCons (tC (.ref CI)) tNil))) (tAndV (tNotV (tCB (rErrIs K cls a d) (tCons (tVar 3) (tCons (tC (.ref CS)) tNil)))) (tCallS (spSame 0) (fun _ => E0) (tCons (tXf a cls d CI "name" (tVar 3)) (tCons (tOp (rIx K) (tVar 1) (tC (.int 1))) tNil)))))) tNext) (tSeq (tIfS (tTest (tOp rEq (tVar 2) (tC (.str "step")))) (tRet (tAndV (tCB (rErrIs K cls a d) (tCons (tVar 3) (tCons (tC (.ref CS)) tNil))) (tAndV (tNotV (tCB (rErrIs K cls a d) (tCons (tVar 3) (tCons (tC (.ref CI)) tNil)))) (tCallS (spSame 0) (fun _ => E0) (tCons (tXf a cls d CS "at" (tVar 3)) (tCons (tC (.int 1)) tNil)))))) tNext) (tRet (tAndV (tCB (rErrIs K cls a d) (tCons (tVar 3) (tCons (tC (.ref CM)) tNil))) (tAndV (tNotV (tCB (rErrIs K cls a d) (tCons (tVar 3) (tCons (tC (.ref CI)) tNil)))) (tCallS (spSame 0) (fun _ => E0) (tCons (tXf a cls d CM "word" (tVar 3)) (tCons (tC (.str "points")) tNil))))))))
      (tb := fun W => tDrop (tMethE C "add" (spAdd C CS CI CM) (WE W) (tVar 0) (tCons (tVar 1) tNil)))
      rfl rfl scRef.nd rfl rfl ⟨rfl, by decide, .inl gB⟩ takes0N
      (fun W pn xe tk _ => (pss_one (ps_expr (by exact pe_methE (pv 0) CT.cl UA.m UA.ok (hr.mono (by decide)) UA.b (fun σ => L2N.passAt tk σ) (pa_cons (pv 1) pa_nil)))))
      (fun a oe cls d pn hz hf => (pss_cons (ps_if (pt_cmpR op_eq (pv 2) pe_str (nomark _)) (pss_one (ps_ret (pe_and (pe_callB (call_errIs hz.zc hf) (by rfl) T.isinst (by decide +kernel) (pa_cons (pv 3) (pa_cons (pe_glob (by rfl) IM.gC (v := .ref CI) (by exact rfl)) pa_nil))) (pe_and (pe_not (pe_callB (call_errIs hz.zc hf) (by rfl) T.isinst (by decide +kernel) (pa_cons (pv 3) (pa_cons (pe_glob (by rfl) BS.gC (v := .ref CS) (by exact rfl)) pa_nil)))) (pe_one (L2H.pe_callH (E := fun _ => E0) UH.ok ⟨h2.dp, h2.un⟩ (suite_hot hz hf) rfl UH.g UH.k UH.b (fun _ _ _ _ _ _ _ h => h.elim) (pa_cons (pe_xf IM.xf IM.no hz.zc hf (pv 3)) (pa_cons (pe_ix ix_seq (pv 1) pe_int (fun _ _ => rfl)) pa_nil)))))))) pss_nil)
      (pss_cons (ps_if (pt_cmpR op_eq (pv 2) pe_str (nomark _)) (pss_one (ps_ret (pe_and (pe_callB (call_errIs hz.zc hf) (by rfl) T.isinst (by decide +kernel) (pa_cons (pv 3) (pa_cons (pe_glob (by rfl) BS.gC (v := .ref CS) (by exact rfl)) pa_nil))) (pe_and (pe_not (pe_callB (call_errIs hz.zc hf) (by rfl) T.isinst (by decide +kernel) (pa_cons (pv 3) (pa_cons (pe_glob (by rfl) IM.gC (v := .ref CI) (by exact rfl)) pa_nil)))) (pe_one (L2H.pe_callH (E := fun _ => E0) UH.ok ⟨h2.dp, h2.un⟩ (suite_hot hz hf) rfl UH.g UH.k UH.b (fun _ _ _ _ _ _ _ h => h.elim) (pa_cons (pe_xf BS.xf BS.no hz.zc hf (pv 3)) (pa_cons pe_int pa_nil)))))))) pss_nil)
      (pss_one (ps_ret (pe_and (pe_callB (call_errIs hz.zc hf) (by rfl) T.isinst (by decide +kernel) (pa_cons (pv 3) (pa_cons (pe_glob (by rfl) TM.gC (v := .ref CM) (by exact rfl)) pa_nil))) (pe_and (pe_not (pe_callB (call_errIs hz.zc hf) (by rfl) T.isinst (by decide +kernel) (pa_cons (pv 3) (pa_cons (pe_glob (by rfl) IM.gC (v := .ref CI) (by exact rfl)) pa_nil)))) (pe_one (L2H.pe_callH (E := fun _ => E0) UH.ok ⟨h2.dp, h2.un⟩ (suite_hot hz hf) rfl UH.g UH.k UH.b (fun _ _ _ _ _ _ _ h => h.elim) (pa_cons (pe_xf TM.xf TM.no hz.zc hf (pv 3)) (pa_cons pe_str pa_nil))))))))))))
      (pss_one (ps_ret pe_bl))), ?_⟩
    obtain ⟨dx, hob⟩ := hc.ob
    have lm : (cF o).lookup ("add" : Str) = none := f_none (by decide +kernel) (by decide +kernel) (by decide +kernel)
    refine ⟨_, rfl, o.p, dx, _, rfl, hob, lm, _, rfl, ?_⟩
    rcases out with ⟨rfl, out⟩ | ⟨rfl, out⟩ | ⟨rfl, out⟩
    · refine AddOut.sp (Same.refl H) hc ck (out _ ?_) (fun _ _ k => k.elim)
      intro G dd sG nd
      refine ⟨true, IM.exB, fun _ a na => ?_, fun z => (nomatch z)⟩
      have hx : upd G dd (.xd [("name", .str st.nm)]) dd = some (.xd [("name", .str st.nm)]) := upd_same
      have s2 := same_xd (o := .xd [("name", .str st.nm)]) sG nd
      generalize upd G dd (.xd [("name", .str st.nm)]) = G2 at hx s2
      refine ⟨_, rfl, rfl, _, rfl, ifY (decide_eq_true rfl) ?_⟩
      refine ⟨_, rfl, CI, .ref CI, .ref CI, true, rfl, IM.ask, rfl, .own _, fun d' e => by cases e; exact ⟨_, hx⟩, KT.ii, true, rfl, ifY rfl ?_⟩
      refine ⟨_, rfl, CI, .ref CS, .ref CS, false, rfl, IM.ask, rfl, .own _, fun d' e => by cases e; exact ⟨_, hx⟩, KT.is, false, rfl, true, rfl, ifY rfl ?_⟩
      refine ⟨_, rfl, rfl, rfl, dd, _, .str st.nm, rfl, hx, rfl, _, rfl, (sx.up s2).seq.ix (k := 1) rfl ?_⟩
      exact ⟨_, _, rfl, ⟨rfl, .str _⟩, fun G3 s3 => go G3 (s2.trans s3)⟩
    · refine AddOut.sp (Same.refl H) hc ck (out _ ?_) (fun _ _ k => k.elim)
      intro G dd sG nd
      refine ⟨true, BS.exB, fun _ a na => ?_, fun z => (nomatch z)⟩
      have hx : upd G dd (.xd [("at", .int ((1 : Nat) : Int))]) dd = some (.xd [("at", .int ((1 : Nat) : Int))]) := upd_same
      have s2 := same_xd (o := .xd [("at", .int ((1 : Nat) : Int))]) sG nd
      generalize upd G dd (.xd [("at", .int ((1 : Nat) : Int))]) = G2 at hx s2
      refine ⟨_, rfl, rfl, _, rfl, ifN (decide_eq_false (by decide +kernel)) ?_⟩
      refine ⟨_, rfl, rfl, _, rfl, ifY (decide_eq_true rfl) ?_⟩
      refine ⟨_, rfl, CS, .ref CS, .ref CS, true, rfl, BS.ask, rfl, .own _, fun d' e => by cases e; exact ⟨_, hx⟩, KT.ss, true, rfl, ifY rfl ?_⟩
      refine ⟨_, rfl, CS, .ref CI, .ref CI, false, rfl, BS.ask, rfl, .own _, fun d' e => by cases e; exact ⟨_, hx⟩, KT.si, false, rfl, true, rfl, ifY rfl ?_⟩
      refine ⟨_, rfl, rfl, rfl, dd, _, .int ((1 : Nat) : Int), rfl, hx, rfl, ?_⟩
      exact ⟨_, _, rfl, ⟨rfl, .int _⟩, fun G3 s3 => go G3 (s2.trans s3)⟩
    · refine AddOut.sp (Same.refl H) hc ck (out _ ?_) (fun _ _ k => k.elim)
      intro G dd sG nd
      refine ⟨true, TM.exB, fun _ a na => ?_, fun z => (nomatch z)⟩
      have hx : upd G dd (.xd [("word", .str "points")]) dd = some (.xd [("word", .str "points")]) := upd_same
      have s2 := same_xd (o := .xd [("word", .str "points")]) sG nd
      generalize upd G dd (.xd [("word", .str "points")]) = G2 at hx s2
      refine ⟨_, rfl, rfl, _, rfl, ifN (decide_eq_false (by decide +kernel)) ?_⟩
      refine ⟨_, rfl, rfl, _, rfl, ifN (decide_eq_false (by decide +kernel)) ?_⟩
      refine ⟨_, rfl, CM, .ref CM, .ref CM, true, rfl, TM.ask, rfl, .own _, fun d' e => by cases e; exact ⟨_, hx⟩, KT.mm, true, rfl, ifY rfl ?_⟩
      refine ⟨_, rfl, CM, .ref CI, .ref CI, false, rfl, TM.ask, rfl, .own _, fun d' e => by cases e; exact ⟨_, hx⟩, KT.mi, false, rfl, true, rfl, ifY rfl ?_⟩
      refine ⟨_, rfl, rfl, rfl, dd, _, .str "points", rfl, hx, rfl, ?_⟩
      exact ⟨_, _, rfl, ⟨rfl, .str _⟩, fun G3 s3 => go G3 (s2.trans s3)⟩
theorem ok_notb {f : Addr} {fd : FuncData} (F : Fun K "_law_not_built" "_law_not_built" sNotB f fd) (T : KindTxt K mg) (gB : mg "FigureError" = some (.ref B)) (IM : ErrT P w K mg base "Impossible" "name" B CI fI dI) (KT : KitT K CS CI CM)
    (UB : CallX P w K mg base 11 "built" ["steps"] (spBuilt C CS CI CM CV) fB dB) (UH : HotT P w K mg base 2 "_law_same" ["told", "due"] (spSame 0) fH dH) : FnOk P w K mg base CX0 12 f fd ["plan", "step"] (spNotB CS CI CM) := by
  refine F.ok scNotB (fun vs H Q E h => ?_) (fun cdv Ar outer s H vs Q E hr h => ?_)
  · obtain ⟨A, us, ss, x, st, rfl, _⟩ := h
    rfl
  · obtain ⟨A, us, ss, x, st, rfl, hA, hu, row, l100, sx, ln, out, go⟩ := h
    have h2 : Room 2 _ := hr.mono (by decide)
    refine ⟨_, (pss_cons (L2N.ps_try_as (i := 2) (ts := fun a cls d => tRet (tAndV (tCB (rErrIs K cls a d) (tCons (tVar 2) (tCons (tC (.ref CI)) tNil))) (tCallS (spSame 0) (fun _ => E0) (tCons (tXf a cls d CI "name" (tVar 2)) (tCons (tOp (rIx K) (tVar 1) (tC (.int 1))) tNil)))))
      (tb := fun W => tDrop (tCallS (spBuilt C CS CI CM CV) (WE W) (tCons (tOp rCat (tVar 0) (tLst (tCons (tVar 1) tNil))) tNil)))
      rfl rfl scNotB.nd rfl rfl ⟨rfl, by decide, .inl gB⟩ takes0N
      (fun W pn xe tk _ => (pss_one (ps_expr (by exact pe_callS UB.ok (hr.mono (by decide)) rfl UB.g UB.k UB.b (fun σ => L2N.passAt tk σ) (pa_cons (pe_op op_cat (pv 0) (pe_lst (pa_cons (pv 1) pa_nil))) pa_nil)))))
      (fun a oe cls d pn hz hf => (pss_one (ps_ret (pe_and (pe_callB (call_errIs hz.zc hf) (by rfl) T.isinst (by decide +kernel) (pa_cons (pv 2) (pa_cons (pe_glob (by rfl) IM.gC (v := .ref CI) (by exact rfl)) pa_nil))) (pe_one (L2H.pe_callH (E := fun _ => E0) UH.ok ⟨h2.dp, h2.un⟩ (suite_hot hz hf) rfl UH.g UH.k UH.b (fun _ _ _ _ _ _ _ h => h.elim) (pa_cons (pe_xf IM.xf IM.no hz.zc hf (pv 2)) (pa_cons (pe_ix ix_seq (pv 1) pe_int (fun _ _ => rfl)) pa_nil)))))))))
      (pss_one (ps_ret pe_bl))), ?_⟩
    have lu : us.length = ss.length := Paired.length hu
    refine ⟨_, rfl, _, rfl, by show 1 ≤ sizeLine; decide, fun L nL => ?_⟩
    have sL := same_new (o := .lst [x]) nL
    have hL : upd H L (.lst [x]) L = some (.lst [x]) := upd_same
    generalize upd H L (.lst [x]) = G0 at sL hL ⊢
    refine ⟨A, L, us, [x], rfl, rfl, sL _ _ hA, hL, by rw [lu, sizeLine_eq]; show ss.length + 1 ≤ _; omega, fun D nD => ?_⟩
    have sD := same_new (o := .lst (us ++ [x])) nD
    have hD : upd G0 D (.lst (us ++ [x])) D = some (.lst (us ++ [x])) := upd_same
    have s1 := sL.trans sD
    generalize upd G0 D (.lst (us ++ [x])) = G1 at sD hD s1 ⊢
    refine ⟨.ref D, rfl, .inr ⟨us ++ [x], ⟨D, rfl, .inl hD⟩, ?_⟩⟩
    have hu1 := pair_imp (fun _ _ q => (StepAt.up q s1).seq) hu
    refine RowOk.out Cok.new row hu1 ?_
    have two : ∀ {E : XK} {K2 : Cst → Prop} {c : Cst}, AddOut CS CI CM G1 E c x (fun _ => False) → BldOut CS CI CM G1 E K2 c [x] := fun {E K2 c} h => by
      rcases h with h | ⟨us, a1, a2, a3, a4, a5⟩
      · exact .inl h
      · refine .inr ⟨us, a1, a2, a3, a4, fun e => ?_⟩
        obtain ⟨s, b1, b2, b3, b4, b5⟩ := a5 e
        exact ⟨s, b1, b2, b3, b4, fun u v => ⟨(b5 u v).1, (b5 u v).2.elim .inl fun z => z.2.elim⟩⟩
    refine two (out G1 _ s1 ?_)
    intro G dd sG nd
    refine ⟨true, IM.exB, fun _ a na => ?_, fun z => (nomatch z)⟩
    have hx : upd G dd (.xd [("name", .str st.nm)]) dd = some (.xd [("name", .str st.nm)]) := upd_same
    have s2 := same_xd (o := .xd [("name", .str st.nm)]) (s1.trans sG) nd
    generalize upd G dd (.xd [("name", .str st.nm)]) = G2 at hx s2
    refine ⟨_, rfl, CI, .ref CI, .ref CI, true, rfl, IM.ask, rfl, .own _, fun d' e => by cases e; exact ⟨_, hx⟩, KT.ii, true, rfl, ifY rfl ?_⟩
    refine ⟨_, rfl, rfl, rfl, dd, _, .str st.nm, rfl, hx, rfl, _, rfl, (sx.up s2).seq.ix (k := 1) rfl ?_⟩
    exact ⟨_, _, rfl, ⟨rfl, .str _⟩, fun G3 s3 => go G3 (s2.trans s3)⟩
end
end CN

set_option Elab.async false
set_option linter.all false
set_option maxRecDepth 100000
set_option maxHeartbeats 4000000
set_option autoImplicit false
set_option pp.maxSteps 300
/-! Twelve points. -/
namespace CN
open PySem L2 K1D K2P
open K4 (isNm)
abbrev sFull : Stmt := K2P.top 75
def spare : List Str := ["qqqa", "qqqb", "qqqc", "qqqd", "qqqe", "qqqf"]
def exS (a b : Str) (k : Nat) : Stp := ⟨.part, spare.getD k "", [a, b], [(k : Int), 7]⟩
def extra (a b : Str) : List Stp := (List.range 6).map (exS a b)
theorem extra_nm (a b : Str) : (extra a b).map (·.nm) = spare := rfl
theorem spare_nm : ∀ x ∈ spare, isNm x = true := by decide +kernel
theorem spare_nd : spare.Nodup := by decide +kernel
theorem part_mv {c : Cst} {a b x : Str} {i j : Nat} {n d : Int} {names0 : List Str} (pa : c.pt a = some (fr i)) (pb : c.pt b = some (fr j)) (hi : i < 6) (hj : j < 6) (ma : a ∈ names0) (mb : b ∈ names0) (nx : isNm x = true) (n0 : -100 ≤ n) (n1 : n ≤ 100) (d0 : 1 ≤ d) (d1 : d ≤ 100) : Moves names0 c.pt ⟨.part, x, [a, b], [n, d]⟩ := by
  have e : (⟨.part, x, [a, b], [n, d]⟩ : Stp).mk3 c.pt 0 = partX (fr i) (fr j) n d := by
    show mkP .part [(c.pt a).getD _, (c.pt b).getD _] [] [n, d] = _
    rw [pa, pb]
    rfl
  have q : Q3 8 (partX (fr i) (fr j) n d) := q_part (q_fr (by omega)) (q_fr (by omega)) (by omega) (by omega)
  have sz : szOk (partX (fr i) (fr j) n d) = true := by
    rw [← szOk_shp]
    show szOk (shp3 (partX (fr 0) (fr 0) 0 0)) = true
    decide +kernel
  refine ⟨⟨rfl, rfl⟩, nx, fun y m => ?_, fun t u h => ?_, rfl, by rw [e]; exact fine_sz q sz, by rw [e]; exact nz_sz q sz (v := fun _ => 0) (by show (1 : Int) * 1 * d ≠ 0; omega)⟩
  · rcases List.mem_cons.mp m with rfl | m
    · exact ma
    · rw [List.mem_singleton.mp m]; exact mb
  · match t, h with
    | 0, h => cases h; exact ⟨by show -100 ≤ n; omega, by omega⟩
    | 1, h => cases h; exact ⟨by show 1 ≤ d; omega, by omega⟩
structure FullAt (S : Six) (c c2 : Cst) (ss : List Stp) : Prop where
  row : RowOk Cst.new (ss ++ extra S.a S.b)
  at_ : c2 = Cst.new.adds (ss ++ extra S.a S.b)
  nm : c2.names = c.names ++ spare
  st : c2.steps = ss ++ extra S.a S.b
  ck : Cok c2
theorem full_at {S : Six} {i j k : Nat} {n d e : Int} {ss : List Stp} {c : Cst} (P : PlanAt S i j k n d e ss c) (ns : ∀ t, S.at t ∉ spare) : ∃ c2, FullAt S c c2 ss := by
  have L := P.idx.lt
  have st := P.st
  have A := moves_ok (names0 := [S.a, S.b]) (pt0 := c.pt) (ss := extra S.a S.b) (c := c) (fun x m => (P.nm x).mpr (by
      rcases List.mem_cons.mp m with rfl | m
      · exact ⟨.a, rfl⟩
      · rw [List.mem_singleton.mp m]; exact ⟨.b, rfl⟩)) (fun _ _ => rfl) (fun s hs => by
      obtain ⟨k, hk, rfl⟩ := List.mem_map.mp hs
      have hk := List.mem_range.mp hk
      refine part_mv (P.pt .a) (P.pt .b) L.1 L.2.1 List.mem_cons_self (List.mem_cons_of_mem _ List.mem_cons_self) ?_ (by omega) (by omega) (by decide) (by decide)
      have : ∀ k, k < 6 → isNm (spare.getD k "") = true := by decide +kernel
      exact this k hk) (by rw [extra_nm]; exact spare_nd) (fun s hs q => by
      have : s.nm ∈ spare := by rw [← extra_nm S.a S.b]; exact List.mem_map.mpr ⟨s, hs, rfl⟩
      obtain ⟨t, e⟩ := (P.nm _).mp q
      rw [e] at this
      exact ns t this) (by rw [st, P.ln]; show 6 + 6 ≤ 12; decide) (by rw [P.un]; decide)
  have row := P.row.app (by rw [← P.at_]; exact A.row)
  have ex : Cst.new.adds (ss ++ extra S.a S.b) = c.adds (extra S.a S.b) := by rw [adds_app, ← P.at_]
  exact ⟨_, row, rfl, by rw [ex, A.nm, extra_nm], by rw [ex, A.st, st], row.cok Cok.new⟩
def spFull : Sp := fun vs H Q _ => ∃ (sv x : V) (A N : Addr) (us : List V) (ns : List Str) (S : Six) (i j k : Nat) (n d e : Int) (ss : List Stp) (c : Cst) (p : Str) (it : Itm), vs = [sv, .ref A, .ref N, x] ∧ H A = some (.lst us) ∧ Paired (StepAt H) us ss ∧ H N = some (.lst ((S.a :: S.b :: ns).map V.str)) ∧ PlanAt S i j k n d e ss c ∧
  (∀ t, S.at t ∉ spare) ∧ it ∈ badI ∧ isNm p = true ∧ (∀ t, p ≠ S.at t) ∧ p ∉ spare ∧ StepAt H x (stI S p it) ∧ ∀ G, Same H G → Q (.bl true) G
section
variable {P : Program} {w : World} {K : PySem.W.Frag} {mg : Str → Option Value} {base : Heap} {B C CS CI CM CV fB fR fK : Addr} {dB dR dK : FuncData}
theorem scFull : FnScope ["src", "plan", "names", "step", "full", "spare", "k", "made_v"] ["src", "plan", "names", "step"] (defScope sFull) := ⟨rfl, rfl, rfl, by decide +kernel, rfl, by decide +kernel, by decide +kernel⟩
theorem ok_full {f : Addr} {fd : FuncData} (F : Fun K "_law_full" "_law_full" sFull f fd) (T : ListTxt mg) (UB : CallX P w K mg base 11 "built" ["steps"] (spBuilt C CS CI CM CV) fB dB) (bB : KBn K dB ["steps"] 0 ["steps"] (fun _ ws => ws) (fun _ zs => zs))
    (UR : CallT P w K mg base CX0 11 "_law_refused" ["made_v", "step", "due"] (spRef C CS CI CM) fR dR) (UK : CallT P w K mg base CX0 5 "_law_kept" ["made_v", "plan"] (spKept C) fK dK) : FnOk P w K mg base CX0 12 f fd ["src", "plan", "names", "step"] spFull := by
  refine F.ok scFull (fun vs H Q E h => ?_) (fun cdv Ar outer s H vs Q E hr h => ?_)
  · obtain ⟨sv, x, A, N, us, ns, S, i, j, k, n, d, e, ss, c, p, it, rfl, _⟩ := h
    rfl
  · obtain ⟨sv, x, A, N, us, ns, S, i, j, k, n, d, e, ss, c, p, it, rfl, hA, hu, hN, PA, nsp, hb, np, new, psp, sx, go⟩ := h
    refine ⟨_, (pss_cons (ps_set (i := 4) scFull.nd rfl (Or.inl rfl) (pe_callTy call_listQ (by rfl) T.list (by decide +kernel) (pa_cons (pv 1) pa_nil)))
      (pss_cons (ps_set (i := 5) scFull.nd rfl (Or.inl rfl) (pe_lst (pa_cons pe_str (pa_cons pe_str (pa_cons pe_str (pa_cons pe_str (pa_cons pe_str (pa_cons pe_str pa_nil))))))))
      (pss_cons (ps_for PassesOwn.never rfl (pi_range1 (by rfl) T.range (pa_cons pe_int pa_nil)) (pg_name (i := 6) scFull.nd rfl (Or.inl rfl)) (pss_one (ps_expr (pe_bm PySem.F.plainAttrs_list PySem.F.slot_list_append PySem.F.type_list_append mt_append (pv 4) (pa_cons (pe_tup (pa_cons pe_str (pa_cons (pe_ix ix_list (pv 5) (pv 6) (fun _ _ => rfl)) (pa_cons (pe_ix ix_list (pv 2) pe_int (fun _ _ => rfl)) (pa_cons (pe_ix ix_list (pv 2) pe_int (fun _ _ => rfl)) (pa_cons (pv 6) (pa_cons pe_int pa_nil))))))) pa_nil)))))
      (pss_cons (ps_set (i := 7) scFull.nd rfl (Or.inl rfl) (pe_kw (E := fun _ => E0) (ks := ["steps"]) UB.ok (hr.mono (by decide)) rfl UB.g UB.k bB (fun pins σ H s e s' I c => L2N.passAt takes0N σ pins H s e s' I c) (pk_cons (pv 4) pk_nil)))
      (pss_one (ps_ret (pe_and (pe_call UR.ok (hr.mono (by decide)) rfl UR.g UR.k UR.b .nil pass0 (pa_cons (pv 7) (pa_cons (pv 3) (pa_cons pe_str pa_nil)))) (pe_one (pe_call UK.ok (hr.mono (by decide)) rfl UK.g UK.k UK.b .nil pass0 (pa_cons (pv 7) (pa_cons (pv 4) pa_nil))))))))))), ?_⟩
    have lu : us.length = 6 := by rw [Paired.length hu, PA.ln]
    refine ⟨_, rfl, A, us, rfl, .inl (SqL.of hA), fun L nL => ?_⟩
    have s1 := same_new (o := .lst us) nL
    have hL : upd H L (.lst us) L = some (.lst us) := upd_same
    have hu1 := pair_imp (fun _ _ q => StepAt.up q s1) hu
    generalize upd H L (.lst us) = G1 at s1 hL hu1 ⊢
    refine ⟨by show 6 ≤ sizeLine; decide, fun R nR => ?_⟩
    have s2 := same_new (o := .lst (spare.map V.str)) nR
    have hR : upd G1 R (.lst (spare.map V.str)) R = some (.lst (spare.map V.str)) := upd_same
    have hL2 := s2 _ _ hL
    have LR : L ≠ R := ne_of_none hL nR
    have hu2 := pair_imp (fun _ _ q => StepAt.up q s2) hu1
    have s12 := s1.trans s2
    show (gName 5 (.ref R) _ (upd G1 R (.lst (spare.map V.str))) _)
    generalize upd G1 R (.lst (spare.map V.str)) = G2 at s2 hR hL2 hu2 s12 ⊢
    dsimp only [gName, List.set]
    refine ⟨6, rfl, by decide, by decide, for_range (lo := 0) (n := 6) (fun m σ G => ∃ (u : Option V) (ws : List V), σ = [some sv, some (.ref A), some (.ref N), some x, some (.ref L), some (.ref R), u, none] ∧ Same H G ∧ G R = some (.lst (spare.map V.str)) ∧ G L = some (.lst ws) ∧ Paired (StepAt G) ws (ss ++ ((extra S.a S.b).take m)))
      ⟨_, us, rfl, s12, hR, hL2, by rw [List.take_zero, List.append_nil]; exact hu2⟩ (fun m σ G hm ⟨u, ws, hσ, sG, hR, hL, hw⟩ => ?_) (fun σ G ⟨u, ws, hσ, sG, hR, hL, hw⟩ => ?_)⟩
    · subst hσ
      have z0 : ((0 : Int) + (m : Int)) = (m : Int) := by omega
      show (gName 6 (.int (0 + (m : Int))) _ G _)
      rw [z0]
      have lw : ws.length = 6 + m := by
        rw [Paired.length hw, List.length_append, PA.ln, List.length_take]
        show 6 + min m 6 = _
        omega
      have hs : (spare.map V.str)[m]? = some (.str (spare.getD m "")) := by
        have : ∀ m, m < 6 → spare[m]? = some (spare.getD m "") := by decide +kernel
        rw [List.getElem?_map, this m hm]
        rfl
      refine ⟨_, rfl, .inl ⟨rfl, _, SqL.of hL⟩, _, rfl, _, rfl, R, _, _, _, rfl, rfl, SqL.of hR, atI_nat hs, _, rfl, N, _, _, _, rfl, rfl, SqL.of (sG _ _ hN), (show atI _ ((0 : Nat) : Int) = some (V.str S.a) from atI_nat rfl), _, rfl, N, _, _, _, rfl, rfl, SqL.of (sG _ _ hN), (show atI _ ((1 : Nat) : Int) = some (V.str S.b) from atI_nat rfl), _, rfl, by show 6 ≤ sizeLine; decide, fun t nt => ?_⟩
      have s3 := same_new (o := .tup [.str "part", .str (spare.getD m ""), .str S.a, .str S.b, .int (m : Int), .int 7]) nt
      have st : StepAt (upd G t (.tup [.str "part", .str (spare.getD m ""), .str S.a, .str S.b, .int (m : Int), .int 7])) (.ref t) (exS S.a S.b m) := ⟨t, rfl, upd_same⟩
      refine ⟨L, ws, _, rfl, rfl, s3 _ _ hL, by rw [lw, sizeLine_eq]; omega, ?_⟩
      have hL3 := s3 _ _ hL
      have hR3 := s3 _ _ hR
      have hw3 := pair_imp (fun _ _ q => StepAt.up q s3) hw
      have s03 := sG.trans s3
      generalize upd G t (.tup [.str "part", .str (spare.getD m ""), .str S.a, .str S.b, .int (m : Int), .int 7]) = G3 at st hL3 hR3 hw3 s03 ⊢
      have ex : (extra S.a S.b)[m]? = some (exS S.a S.b m) := by
        unfold extra
        rw [List.getElem?_map, List.getElem?_range hm]
        rfl
      refine ⟨_, ws ++ [.ref t], rfl, fun b o q => (upd_ne (ne_of_none q nL)).trans (s03 _ _ q), (upd_ne (Ne.symm LR)).trans hR3, upd_same, ?_⟩
      rw [K2P.take_snoc ex, ← List.append_assoc]
      exact pair_snoc (st.setL hL3) (pair_imp (fun _ _ q => StepAt.setL q hL3) hw3)
    · subst hσ
      have hw : Paired (StepAt G) ws (ss ++ extra S.a S.b) := hw
      obtain ⟨c2, FA⟩ := full_at PA nsp
      refine ⟨_, rfl, rfl, .ref L, rfl, .inr ⟨ws, ⟨L, rfl, .inl hL⟩, ?_⟩⟩
      have e0 : ws = ws ++ [] := (List.append_nil _).symm
      rw [e0]
      refine RowOk.out Cok.new FA.row (pair_imp (fun _ _ q => StepAt.seq q) hw) ?_
      intro o F hc ck sF on
      rw [← FA.at_] at hc ck
      have sHF := sG.trans sF
      have ok := all_ok it (List.mem_append_left _ hb)
      have rt : Right c2.names (stI S p it) := by
        have r := item_right PA ok (all_nu it (List.mem_append_left _ hb)) np new
        refine ⟨r.shp, r.nm, fun q => ?_, fun y m => ?_, r.nu⟩
        · rw [FA.nm] at q
          exact (List.mem_append.mp q).elim r.new psp
        · rw [FA.nm]
          exact List.mem_append_left _ (r.el y m)
      have l12 : c2.steps.length = 12 := by rw [FA.st, List.length_append, PA.ln]; rfl
      have sx2 := sx.up sHF
      refine ⟨_, rfl, _, rfl, o, c2, x, stI S p it, "points", rfl, hc, ck, sx2, by have := nm_len np; show p.length ≤ 1000; omega, .inr (.inr ⟨rfl, fun E r => full_out rt ck l12 sx2.seq r⟩), fun G4 s4 => ⟨true, rfl, ifY rfl ?_⟩⟩
      refine ⟨_, rfl, _, rfl, o, c2, L, ws, rfl, hc.up s4, ck, s4 _ _ (sF _ _ hL), by rw [FA.st]; exact pair_imp (fun _ _ q => StepAt.up q (sF.trans s4)) hw, fun G5 s5 => go G5 (sHF.trans (s4.trans s5))⟩
end
end CN

set_option Elab.async false
set_option linter.all false
set_option maxRecDepth 100000
set_option maxHeartbeats 8000000
set_option autoImplicit false
set_option pp.maxSteps 300
/-! The law. -/
namespace CN
open PySem L2 K1D K2P
open K4 (isNm)
abbrev sLaw : Stmt := K2P.top 76
theorem names_ok : ∀ b, b < 26 → ∀ t ∈ tails, (nmL b t).Nodup ∧ ∀ x ∈ nmL b t, isNm x = true ∧ x ∉ spare := by decide +kernel
def sixN (b : Nat) (t : Str) : Six := ⟨nmK b t 0, nmK b t 1, nmK b t 2, nmK b t 3, nmK b t 4, nmK b t 5⟩
def ixN : Nm → Nat
  | .a => 0 | .b => 1 | .c => 2 | .l => 3 | .m => 4 | .z => 5
theorem six_at (b : Nat) (t : Str) (u : Nm) : (nmL b t)[ixN u]? = some ((sixN b t).at u) := by cases u <;> rfl
theorem six_of (b : Nat) (t : Str) : ∀ j, j < 6 → ∃ u, (nmL b t)[j]? = some ((sixN b t).at u) := fun j h => by
  match j, h with
  | 0, _ => exact ⟨.a, rfl⟩
  | 1, _ => exact ⟨.b, rfl⟩
  | 2, _ => exact ⟨.c, rfl⟩
  | 3, _ => exact ⟨.l, rfl⟩
  | 4, _ => exact ⟨.m, rfl⟩
  | 5, _ => exact ⟨.z, rfl⟩
theorem seven (b : Nat) (t : Str) : (nmL b t)[6]? = some (nmK b t 6) := rfl
theorem ix_inj : ∀ t u : Nm, ixN t = ixN u → t = u := by intro t u; cases t <;> cases u <;> simp [ixN]
theorem ix_lt (t : Nm) : ixN t < 6 := by cases t <;> decide
structure NamesR (S : Six) (p : Str) : Prop where
  nm : ∀ t, isNm (S.at t) = true
  inj : ∀ t u, S.at t = S.at u → t = u
  np : isNm p = true
  new : ∀ t, p ≠ S.at t
  sp : ∀ t, S.at t ∉ spare
  psp : p ∉ spare
theorem names_r {b : Nat} {t : Str} (h : b < 26) (m : t ∈ tails) : NamesR (sixN b t) (nmK b t 6) := by
  obtain ⟨nd, all⟩ := names_ok b h t m
  have mem : ∀ u, (sixN b t).at u ∈ nmL b t := fun u => List.mem_of_getElem? (six_at b t u)
  have m6 : nmK b t 6 ∈ nmL b t := List.mem_of_getElem? (seven b t)
  refine ⟨fun u => (all _ (mem u)).1, fun u v e => ?_, (all _ m6).1, fun u e => ?_, fun u => (all _ (mem u)).2, (all _ m6).2⟩
  · have hu := six_at b t u
    have hv := six_at b t v
    rw [← e] at hv
    exact ix_inj u v ((List.getElem?_inj (List.getElem?_eq_some_iff.mp hu).1 nd).mp (hu.trans hv.symm))
  · have hu := six_at b t u
    have h6 := seven b t
    rw [e] at h6
    have := (List.getElem?_inj (List.getElem?_eq_some_iff.mp hu).1 nd).mp (hu.trans h6.symm)
    have := ix_lt u
    omega
/-- what stands through the law -/
structure LawS (C : Addr) (G : Hp) (p l N A Lb Lg : Addr) (o : Own) (b : Nat) (t : Str) (ss : List Stp) (c : Cst) : Prop where
  src : SrcL G p l
  hN : G N = some (.lst ((nmL b t).map V.str))
  pl : ∃ us, G A = some (.lst us) ∧ Paired (StepAt G) us ss
  mv : ConAt C G o c
  bd : ∃ us, G Lb = some (.lst us) ∧ Paired (StepAt G) us (badI.map (stI (sixN b t) (nmK b t 6)))
  gd : ∃ us, G Lg = some (.lst us) ∧ Paired (StepAt G) us (goodI.map (stI (sixN b t) (nmK b t 6)))
  ne : ∀ x, x = N ∨ x = A ∨ x = Lb ∨ x = Lg ∨ x = o.p ∨ x = o.s ∨ x = o.u ∨ x = o.t → x ≠ p ∧ x ≠ l
theorem LawS.same {C p l N A Lb Lg : Addr} {G F : Hp} {o : Own} {b : Nat} {t : Str} {ss : List Stp} {c : Cst} (h : LawS C G p l N A Lb Lg o b t ss c) (s : Same G F) : LawS C F p l N A Lb Lg o b t ss c := by
  obtain ⟨us, h1, h2⟩ := h.pl
  obtain ⟨us3, h3, h4⟩ := h.bd
  obtain ⟨us5, h5, h6⟩ := h.gd
  exact ⟨h.src.same s, s _ _ h.hN, ⟨us, s _ _ h1, pair_imp (fun _ _ q => StepAt.up q s) h2⟩, h.mv.up s, ⟨us3, s _ _ h3, pair_imp (fun _ _ q => StepAt.up q s) h4⟩, ⟨us5, s _ _ h5, pair_imp (fun _ _ q => StepAt.up q s) h6⟩, h.ne⟩
theorem LawS.bt {C p l N A Lb Lg : Addr} {G F : Hp} {o : Own} {b : Nat} {t : Str} {ss : List Stp} {c : Cst} (h : LawS C G p l N A Lb Lg o b t ss c) (s : Bt p l G F) (sr : SrcL F p l) : LawS C F p l N A Lb Lg o b t ss c := by
  obtain ⟨us, h1, h2⟩ := h.pl
  obtain ⟨us3, h3, h4⟩ := h.bd
  obtain ⟨us5, h5, h6⟩ := h.gd
  have k : ∀ x y, G x = some y → (x = N ∨ x = A ∨ x = Lb ∨ x = Lg ∨ x = o.p ∨ x = o.s ∨ x = o.u ∨ x = o.t) → F x = some y := fun x y q e => s _ _ (h.ne x e).1 (h.ne x e).2 q
  exact ⟨sr, k _ _ h.hN (.inl rfl), ⟨us, k _ _ h1 (.inr (.inl rfl)), pair_imp (fun _ _ q => StepAt.bt q s h.src) h2⟩, h.mv.bt s h.src (fun x e => h.ne x (.inr (.inr (.inr (.inr e))))), ⟨us3, k _ _ h3 (.inr (.inr (.inl rfl))), pair_imp (fun _ _ q => StepAt.bt q s h.src) h4⟩, ⟨us5, k _ _ h5 (.inr (.inr (.inr (.inl rfl)))), pair_imp (fun _ _ q => StepAt.bt q s h.src) h6⟩, h.ne⟩
structure LawZ (P : Program) (w : World) (K : PySem.W.Frag) (mg : Str → Option Value) (base : Heap) (C CS CI CM fD fR fK fN fM fB fL fI fG fF fC fA : Addr) (dD dR dK dN dM dB dL dI dG dF dC dA : FuncData) : Prop where
  T : ListTxt mg
  CT : ConTxt K mg C
  UD : CallT P w K mg base CX0 1 "_law_draw" ["src", "many"] spDraw fD dD
  UR : CallT P w K mg base CX0 11 "_law_refused" ["made_v", "step", "due"] (spRef C CS CI CM) fR dR
  UK : CallT P w K mg base CX0 5 "_law_kept" ["made_v", "plan"] (spKept C) fK dK
  UN : CallT P w K mg base CX0 12 "_law_not_built" ["plan", "step"] (spNotB CS CI CM) fN dN
  UM : CallT P w K mg base CX0 2 "_law_names" ["src"] spNames fM dM
  UB : CallT P w K mg base CX0 2 "_law_base" ["src", "names"] spBase fB dB
  UL : CallT P w K mg base CX0 12 "_law_build" ["src", "plan"] (spLB C) fL dL
  UI : CallT P w K mg base CX0 1 "_law_impossible" ["p", "names"] spBad fI dI
  UG : CallT P w K mg base CX0 1 "_law_possible" ["p", "names"] spGood fG dG
  UF : CallT P w K mg base CX0 12 "_law_full" ["src", "plan", "names", "step"] spFull fF dF
  UC : MethT P w K mg base CX0 C 3 "copy" ["self"] (spCopy C) fC dC
  UA : MethX P w K mg base C 10 "add" ["self", "step"] (spAdd C CS CI CM) fA dA
  kA : KBn K dA ["self", "step"] 1 ["step"] (fun us ws => us ++ ws) (fun vs zs => vs ++ zs)
def spLaw (K : PySem.W.Frag) : Sp := fun vs H Q _ => ∃ (a : Addr) (ns : List Int), vs = [.ref a] ∧ SqL K H a (ns.map V.int) ∧ ns.length ≤ 1000 ∧ ∀ G, Q (.bl true) G
section
variable {P : Program} {w : World} {K : PySem.W.Frag} {mg : Str → Option Value} {base : Heap} {C CS CI CM fD fR fK fN fM fB fL fI fG fF fC fA : Addr} {dD dR dK dN dM dB dL dI dG dF dC dA : FuncData}
theorem scLaw : FnScope ["script", "src", "names", "plan", "made_v", "bad", "good", "k", "step", "taken", "other"] ["script"] (defScope sLaw) := ⟨rfl, rfl, rfl, by decide +kernel, rfl, by decide +kernel, by decide +kernel⟩
theorem ok_law {f : Addr} {fd : FuncData} (F : Fun K "law" "law" sLaw f fd) (Z : LawZ P w K mg base C CS CI CM fD fR fK fN fM fB fL fI fG fF fC fA dD dR dK dN dM dB dL dI dG dF dC dA) : FnOk P w K mg base CX0 13 f fd ["script"] (spLaw K) := by
  refine F.ok scLaw (fun vs H Q E h => ?_) (fun cdv Ar outer s H vs Q E hr h => ?_)
  · obtain ⟨a, ns, rfl, _⟩ := h
    rfl
  · obtain ⟨a, ns, rfl, hs, nl, go⟩ := h
    refine ⟨_, (pss_cons (ps_set (i := 1) scLaw.nd rfl (Or.inl rfl) (pe_lst (pa_cons (pe_callTy call_listQ (by rfl) Z.T.list (by decide +kernel) (pa_cons (pv 0) pa_nil)) (pa_cons pe_int (pa_cons pe_int (pa_cons (pe_op op_add pe_int (pe_callB call_lenQ (by rfl) Z.T.len PySem.boot_len (pa_cons (pv 0) pa_nil))) pa_nil))))))
      (pss_cons (ps_set (i := 2) scLaw.nd rfl (Or.inl rfl) (pe_call Z.UM.ok (hr.mono (by decide)) rfl Z.UM.g Z.UM.k Z.UM.b .nil pass0 (pa_cons (pv 1) pa_nil)))
      (pss_cons (ps_set (i := 3) scLaw.nd rfl (Or.inl rfl) (pe_call Z.UB.ok (hr.mono (by decide)) rfl Z.UB.g Z.UB.k Z.UB.b .nil pass0 (pa_cons (pv 1) (pa_cons (pv 2) pa_nil))))
      (pss_cons (ps_set (i := 4) scLaw.nd rfl (Or.inl rfl) (pe_call Z.UL.ok (hr.mono (by decide)) rfl Z.UL.g Z.UL.k Z.UL.b .nil pass0 (pa_cons (pv 1) (pa_cons (pv 3) pa_nil))))
      (pss_cons (ps_set (i := 5) scLaw.nd rfl (Or.inl rfl) (pe_call Z.UI.ok (hr.mono (by decide)) rfl Z.UI.g Z.UI.k Z.UI.b .nil pass0 (pa_cons (pe_ix ix_list (pv 2) pe_int (fun _ _ => rfl)) (pa_cons (pv 2) pa_nil))))
      (pss_cons (ps_set (i := 6) scLaw.nd rfl (Or.inl rfl) (pe_call Z.UG.ok (hr.mono (by decide)) rfl Z.UG.g Z.UG.k Z.UG.b .nil pass0 (pa_cons (pe_ix ix_list (pv 2) pe_int (fun _ _ => rfl)) (pa_cons (pv 2) pa_nil))))
      (pss_cons (ps_for PassesOwn.never rfl (pi_range1 (by rfl) Z.T.range (pa_cons pe_int pa_nil)) (pg_name (i := 7) scLaw.nd rfl (Or.inl rfl)) (pss_cons (ps_set (i := 8) scLaw.nd rfl (Or.inl rfl) (pe_ix ix_list (pv 5) (pe_call Z.UD.ok (hr.mono (by decide)) rfl Z.UD.g Z.UD.k Z.UD.b .nil pass0 (pa_cons (pv 1) (pa_cons (pe_callB call_lenQ (by rfl) Z.T.len PySem.boot_len (pa_cons (pv 5) pa_nil)) pa_nil))) (fun _ _ => rfl)))
      (pss_cons (ps_if (PW.pt (pw_or (pt_not (pt_val (pe_call Z.UR.ok (hr.mono (by decide)) rfl Z.UR.g Z.UR.k Z.UR.b .nil pass0 (pa_cons (pv 4) (pa_cons (pv 8) (pa_cons pe_str pa_nil)))))) (pw_or (pt_not (pt_val (pe_call Z.UK.ok (hr.mono (by decide)) rfl Z.UK.g Z.UK.k Z.UK.b .nil pass0 (pa_cons (pv 4) (pa_cons (pv 3) pa_nil))))) (pw_or1 (pt_not (pt_val (pe_call Z.UN.ok (hr.mono (by decide)) rfl Z.UN.g Z.UN.k Z.UN.b .nil pass0 (pa_cons (pv 3) (pa_cons (pv 8) pa_nil))))))))) (pss_one (ps_ret pe_bl)) pss_nil)
      (pss_cons (ps_set (i := 9) scLaw.nd rfl (Or.inl rfl) (pe_op op_catA (pe_tup (pa_cons (pe_ix ix_tup (pv 8) pe_int (fun _ _ => rfl)) (pa_cons (pe_ix ix_list (pv 2) (pe_call Z.UD.ok (hr.mono (by decide)) rfl Z.UD.g Z.UD.k Z.UD.b .nil pass0 (pa_cons (pv 1) (pa_cons pe_int pa_nil))) (fun _ _ => rfl)) pa_nil))) (pe_slice sl_tupA (pv 8) (po_some pe_int) po_none)))
      (pss_one (ps_if (pt_not (pt_val (pe_call Z.UR.ok (hr.mono (by decide)) rfl Z.UR.g Z.UR.k Z.UR.b .nil pass0 (pa_cons (pv 4) (pa_cons (pv 9) (pa_cons pe_str pa_nil)))))) (pss_one (ps_ret pe_bl)) pss_nil))))))
      (pss_cons (ps_for PassesOwn.never rfl (pi_range1 (by rfl) Z.T.range (pa_cons pe_int pa_nil)) (pg_name (i := 7) scLaw.nd rfl (Or.inl rfl)) (pss_cons (ps_set (i := 8) scLaw.nd rfl (Or.inl rfl) (pe_ix ix_list (pv 6) (pe_call Z.UD.ok (hr.mono (by decide)) rfl Z.UD.g Z.UD.k Z.UD.b .nil pass0 (pa_cons (pv 1) (pa_cons (pe_callB call_lenQ (by rfl) Z.T.len PySem.boot_len (pa_cons (pv 6) pa_nil)) pa_nil))) (fun _ _ => rfl)))
      (pss_cons (ps_set (i := 10) scLaw.nd rfl (Or.inl rfl) (pe_meth0 (pv 4) Z.CT.cl Z.UC.m Z.UC.ok (hr.mono (by decide)) Z.UC.b .nil pass0))
      (pss_cons (ps_expr (pe_methKw (E := fun _ => E0) (pv 10) Z.CT.cl Z.UA.m Z.UA.ok (hr.mono (by decide)) Z.kA (fun σ => L2N.passAt takes0N σ) (pk_cons (pv 8) pk_nil)))
      (pss_one (ps_if (PW.pt (pw_or (pt_not (pt_val (pe_call Z.UK.ok (hr.mono (by decide)) rfl Z.UK.g Z.UK.k Z.UK.b .nil pass0 (pa_cons (pv 10) (pa_cons (pe_op op_cat (pv 3) (pe_lst (pa_cons (pv 8) pa_nil))) pa_nil))))) (pw_or1 (pt_not (pt_val (pe_call Z.UK.ok (hr.mono (by decide)) rfl Z.UK.g Z.UK.k Z.UK.b .nil pass0 (pa_cons (pv 4) (pa_cons (pv 3) pa_nil)))))))) (pss_one (ps_ret pe_bl)) pss_nil))))))
      (pss_one (ps_ret (pe_or (pe_cmpR op_gt (pe_call Z.UD.ok (hr.mono (by decide)) rfl Z.UD.g Z.UD.k Z.UD.b .nil pass0 (pa_cons (pv 1) (pa_cons pe_int pa_nil))) pe_int (nomark _)) (pe_one (pe_call Z.UF.ok (hr.mono (by decide)) rfl Z.UF.g Z.UF.k Z.UF.b .nil pass0 (pa_cons (pv 1) (pa_cons (pv 3) (pa_cons (pv 2) (pa_cons (pe_ix ix_list (pv 5) (pe_call Z.UD.ok (hr.mono (by decide)) rfl Z.UD.g Z.UD.k Z.UD.b .nil pass0 (pa_cons (pv 1) (pa_cons (pe_callB call_lenQ (by rfl) Z.T.len PySem.boot_len (pa_cons (pv 5) pa_nil)) pa_nil))) (fun _ _ => rfl)) pa_nil))))))))))))))))), ?_⟩
    refine ⟨_, rfl, a, _, rfl, .inl hs, fun l nl0 => ⟨_, rfl, a, ns.map V.int, rfl, .inl ((same_new (o := .lst (ns.map V.int)) nl0).seq hs), _, _, rfl, rfl, by show 4 ≤ sizeLine; decide, fun p np => ?_⟩⟩
    have hl : upd H l (.lst (ns.map V.int)) l = some (.lst (ns.map V.int)) := upd_same
    have lp : l ≠ p := ne_of_none hl np
    have src0 : SrcL (upd (upd H l (.lst (ns.map V.int))) p (.lst [.ref l, .int 0, .int 0, .int (1 + ((ns.map V.int).length : Nat))])) p l := ⟨0, 0, _, ns, upd_same, (upd_ne lp).trans hl, by omega, by rw [List.length_map]; omega, by omega, lp⟩
    generalize upd (upd H l (.lst (ns.map V.int))) p (.lst [.ref l, .int 0, .int 0, .int (1 + ((ns.map V.int).length : Nat))]) = H1 at src0 ⊢
    refine ⟨_, rfl, p, l, rfl, src0, fun N b t G2 hb ht src2 b2 nN hN => ?_⟩
    have NR := names_r hb ht
    refine ⟨_, rfl, _, rfl, p, l, N, (sixN b t).a, (sixN b t).b, (sixN b t).c, (sixN b t).l, (sixN b t).m, (sixN b t).z, [nmK b t 6, nmK b t 7, nmK b t 8, nmK b t 9, nmK b t 10, nmK b t 11], rfl, src2, hN, fun A us ss G3 src3 b3 nA hA hu po => ?_⟩
    obtain ⟨i, j, k, n, d, e, c, PA⟩ := plan_at NR.nm NR.inj po
    dsimp only [gName]
    refine st_re (σ2 := [some (.ref a), some (.ref p), some (.ref N), some (.ref A), none, none, none, none, none, none, none]) rfl ?_
    have Nne := src0.ne nN
    have Ane := src2.ne nA
    have l6 := PA.ln
    have hN3 := b3 _ _ Nne.1 Nne.2 hN
    refine ⟨_, rfl, _, rfl, p, l, A, us, ss, rfl, src3, hA, Ane.1, Ane.2, hu, PA.row, by omega, fun o G4 src4 b4 on hc => ?_⟩
    rw [← PA.at_] at hc
    have hN4 := b4 _ _ Nne.1 Nne.2 hN3
    have hA4 := b4 _ _ Ane.1 Ane.2 hA
    have hu4 := pair_imp (fun _ _ q => StepAt.bt q b4 src3) hu
    have off := on.off src3
    dsimp only [gName, List.set]
    refine ⟨_, rfl, N, _, _, _, rfl, rfl, SqL.of hN4, (show atI _ ((6 : Nat) : Int) = some (V.str (nmK b t 6)) from atI_nat rfl), _, rfl, nmK b t 6, (sixN b t).a, (sixN b t).b, (sixN b t).c, (sixN b t).l, (sixN b t).m, (sixN b t).z, [nmK b t 6, nmK b t 7, nmK b t 8, nmK b t 9, nmK b t 10, nmK b t 11], N, rfl, hN4, fun Lb ub G5 s5 nLb hLb hub => ?_⟩
    rw [bad_map] at hub
    have hN5 := s5 _ _ hN4
    have Lbne := src4.ne nLb
    dsimp only [gName, List.set]
    refine ⟨_, rfl, N, _, _, _, rfl, rfl, SqL.of hN5, (show atI _ ((6 : Nat) : Int) = some (V.str (nmK b t 6)) from atI_nat rfl), _, rfl, nmK b t 6, (sixN b t).a, (sixN b t).b, (sixN b t).c, (sixN b t).l, (sixN b t).m, (sixN b t).z, [nmK b t 6, nmK b t 7, nmK b t 8, nmK b t 9, nmK b t 10, nmK b t 11], N, rfl, hN5, fun Lg ug G6 s6 nLg hLg hug => ?_⟩
    rw [good_map] at hug
    have Lgne := (src4.same s5).ne nLg
    have s46 := s5.trans s6
    have LS : LawS C G6 p l N A Lb Lg o b t ss c := ⟨src4.same s46, s6 _ _ hN5, ⟨us, s46 _ _ hA4, pair_imp (fun _ _ q => StepAt.up q s46) hu4⟩, hc.up s46, ⟨ub, s6 _ _ hLb, pair_imp (fun _ _ q => StepAt.up q s6) hub⟩, ⟨ug, hLg, hug⟩, fun x e => by
      rcases e with rfl | rfl | rfl | rfl | e
      · exact Nne
      · exact Ane
      · exact Lbne
      · exact Lgne
      · exact off x e⟩
    have ck := PA.ck
    have st := PA.st
    have pn4 := nm_len NR.np
    clear hN3 hN4 hA4 hu4 hLb hub hN5 hLg hug s46 s5 s6 hc
    dsimp only [gName, List.set]
    refine ⟨4, rfl, by decide, by decide, for_range (lo := 0) (n := 4) (fun m σ G => ∃ u7 u8 u9 : Option V, σ = [some (.ref a), some (.ref p), some (.ref N), some (.ref A), some (.ref o.p), some (.ref Lb), some (.ref Lg), u7, u8, u9, none] ∧ LawS C G p l N A Lb Lg o b t ss c)
      ⟨_, _, _, rfl, LS⟩ (fun m σ G hm ⟨u7, u8, u9, hσ, S⟩ => ?_) (fun σ G ⟨u7, u8, u9, hσ, S⟩ => ?_)⟩
    · subst hσ
      obtain ⟨wb, hB, hwb⟩ := S.bd
      have lwb : wb.length = 29 := Paired.length hwb
      have pne := S.ne
      dsimp only [gName, List.set]
      refine ⟨_, rfl, _, rfl, _, rfl, Lb, wb, rfl, .inl (SqL.of hB), p, l, _, rfl, S.src, by omega, by rw [lwb]; decide, fun z0 F z00 z01 srF bF => ?_⟩
      obtain ⟨z, rfl⟩ : ∃ z : Nat, z0 = z := ⟨z0.toNat, by omega⟩
      have zl : z < wb.length := by omega
      have SF := S.bt bF srF
      have hBF := bF _ _ (pne Lb (.inr (.inr (.inl rfl)))).1 (pne Lb (.inr (.inr (.inl rfl)))).2 hB
      have hy := List.getElem?_eq_getElem zl
      have zl2 : z < badI.length := by show z < 29; omega
      have hi := List.getElem?_eq_getElem zl2
      have mi : badI[z] ∈ badI := List.getElem_mem zl2
      have sx : StepAt F wb[z] (stI (sixN b t) (nmK b t 6) badI[z]) := StepAt.bt (pair_get hwb hy (by rw [List.getElem?_map, hi]; rfl)) bF S.src
      generalize badI[z] = it at mi sx hi
      refine ⟨Lb, wb, _, wb[z], rfl, rfl, SqL.of hBF, atI_nat hy, ?_⟩
      obtain ⟨tt, et, ht⟩ := id sx
      rw [et] at sx ⊢
      clear hy et hBF hwb hB hi
      have BI := bad_item PA mi NR.np NR.new
      have l12 : c.steps.length < 12 := by rw [st, l6]; decide
      have u8 : (c.unk ++ newUnk (stI (sixN b t) (nmK b t 6) it)).length ≤ 8 := by
        rw [new_none (s := stI (sixN b t) (nmK b t 6) it) (okI_lens (all_ok it (List.mem_append_left _ mi))).2.1, List.append_nil, PA.un]
        decide
      dsimp only [gName, List.set]
      refine ⟨_, rfl, _, rfl, o, c, _, _, "impossible", rfl, SF.mv, ck, sx, by show (nmK b t 6).length ≤ 1000; omega, .inl ⟨rfl, fun E r => bad_out BI.1 ck l12 u8 BI.2.1 BI.2.2 sx.seq r⟩, fun F1 s1 => ⟨_, rfl, ifN rfl ?_⟩⟩
      have S1 := SF.same s1
      obtain ⟨wa, hA1, hwa⟩ := S1.pl
      refine ⟨_, rfl, _, rfl, o, c, A, wa, rfl, S1.mv, ck, hA1, by rw [st]; exact hwa, fun F2 s2 => ⟨_, rfl, ifN rfl ?_⟩⟩
      have S2 := S1.same s2
      have sx2 := sx.up (s1.trans s2)
      refine ⟨_, rfl, _, rfl, A, wa, ss, _, _, rfl, s2 _ _ hA1, pair_imp (fun _ _ q => StepAt.up q s2) hwa, PA.row, by omega, sx2, by show (nmK b t 6).length ≤ 1000; omega, fun G' E s' r => by rw [← PA.at_]; exact bad_out BI.1 ck l12 u8 BI.2.1 BI.2.2 (sx2.up s').seq r, fun F3 s3 => ⟨_, rfl, ifN rfl ?_⟩⟩
      have S3 := S2.same s3
      have ht3 := (s1.trans (s2.trans s3)) _ _ ht
      refine ⟨_, rfl, tt, _, _, _, rfl, rfl, SqT.of ht3, (show atI _ ((0 : Nat) : Int) = some (V.str (wdS it.1)) from atI_nat rfl), _, rfl, _, rfl, p, l, 6, rfl, S3.src, by decide, by decide, fun q0 F4 q00 q01 sr4 b4 => ?_⟩
      obtain ⟨q, rfl⟩ : ∃ q : Nat, q0 = q := ⟨q0.toNat, by omega⟩
      obtain ⟨un, hun⟩ := six_of b t q (by omega)
      have S4 := S3.bt b4 sr4
      have sx4 : StepAt F4 (.ref tt) (stI (sixN b t) (nmK b t 6) it) := StepAt.bt ⟨tt, rfl, ht3⟩ b4 S3.src
      obtain ⟨tt', ett, ht4⟩ := sx4
      cases ett
      refine ⟨N, _, _, .str ((sixN b t).at un), rfl, rfl, SqL.of S4.hN, atI_nat (by rw [List.getElem?_map, hun]; rfl), by show 2 ≤ sizeLine; decide, fun t1 n1 => ?_⟩
      have s5 := same_new (o := .tup [.str (wdS it.1), .str ((sixN b t).at un)]) n1
      have h1 : upd F4 t1 (.tup [.str (wdS it.1), .str ((sixN b t).at un)]) t1 = some (.tup [.str (wdS it.1), .str ((sixN b t).at un)]) := upd_same
      have ht5 := s5 _ _ ht4
      generalize upd F4 t1 (.tup [.str (wdS it.1), .str ((sixN b t).at un)]) = F5 at s5 h1 ht5 ⊢
      refine ⟨_, rfl, _, rfl, tt, _, rfl, SqT.of ht5, fun wh => absurd wh.1 ?_, fun _ t2 n2 => ?_⟩
      · rw [show (2 : Int) = ((2 : Nat) : Int) from rfl, HT.sIx_nat]
        show min 2 ((stI (sixN b t) (nmK b t 6) it).mem.length + 1 + 1) ≠ 0
        omega
      have dv : cutV (stI (sixN b t) (nmK b t 6) it).vals (some 2) none = (stI (sixN b t) (nmK b t 6) it).mem := cut_from _ _ 2 rfl
      rw [dv]
      have s6 := same_new (o := .tup (stI (sixN b t) (nmK b t 6) it).mem) n2
      have h2 : upd F5 t2 (.tup (stI (sixN b t) (nmK b t 6) it).mem) t2 = some (.tup (stI (sixN b t) (nmK b t 6) it).mem) := upd_same
      have h16 := s6 _ _ h1
      generalize upd F5 t2 (.tup (stI (sixN b t) (nmK b t 6) it).mem) = F6 at s6 h2 h16 ⊢
      have sh := item_shp (S := sixN b t) (p := (sixN b t).at un) (all_ok it (List.mem_append_left _ mi))
      have l8 := sh.len8
      have short : Short (stI (sixN b t) ((sixN b t).at un) it) := ⟨by have := nm_len (NR.nm un); show ((sixN b t).at un).length ≤ 1000; omega, fun y m => by
        obtain ⟨v, _, rfl⟩ := List.mem_map.mp m
        have := nm_len (NR.nm v)
        omega⟩
      have lm : (stI (sixN b t) (nmK b t 6) it).mem.length + 2 = (stI (sixN b t) ((sixN b t).at un) it).vals.length := rfl
      have fin : ∀ (tk : Addr) (F7 : Hp), Same F6 F7 → F7 tk = some (.tup (stI (sixN b t) ((sixN b t).at un) it).vals) → StepAt F7 (.ref tk) (stI (sixN b t) ((sixN b t).at un) it) := fun tk F7 _ h => ⟨tk, rfl, h⟩
      refine ⟨t1, t2, _, _, rfl, rfl, SqT.of h16, SqT.of h2, by show 2 + _ ≤ _; rw [sizeLine_eq]; omega, fun e => (nomatch e), fun _ em => ?_, fun _ _ t3 n3 => ?_⟩
      · dsimp only [gName, List.set]
        have hv : F6 t1 = some (.tup (stI (sixN b t) ((sixN b t).at un) it).vals) := by
          rw [h16]
          show _ = some (HO.tup (V.str (wdS it.1) :: V.str ((sixN b t).at un) :: (stI (sixN b t) (nmK b t 6) it).mem))
          rw [em]
        have fx := fin t1 F6 (Same.refl F6) hv
        refine ⟨_, rfl, _, rfl, o, c, _, _, "step", rfl, (S4.same (s5.trans s6)).mv, ck, fx, short.1, .inr (.inl ⟨rfl, fun E r => taken_out sh (NR.nm un) ((PA.nm _).mpr ⟨un, rfl⟩) short fx.seq r⟩), fun F8 s8 => ⟨_, rfl, ifN rfl ?_⟩⟩
        exact ⟨_, _, _, rfl, (S4.same (s5.trans s6)).same s8⟩
      · dsimp only [gName, List.set]
        have fx := fin t3 _ (same_new n3) upd_same
        refine ⟨_, rfl, _, rfl, o, c, _, _, "step", rfl, ((S4.same (s5.trans s6)).same (same_new n3)).mv, ck, fx, short.1, .inr (.inl ⟨rfl, fun E r => taken_out sh (NR.nm un) ((PA.nm _).mpr ⟨un, rfl⟩) short fx.seq r⟩), fun F8 s8 => ⟨_, rfl, ifN rfl ?_⟩⟩
        exact ⟨_, _, _, rfl, ((S4.same (s5.trans s6)).same (same_new n3)).same s8⟩
    · subst hσ
      dsimp only
      refine ⟨2, rfl, by decide, by decide, for_range (lo := 0) (n := 2) (fun m σ G => ∃ u7 u8 u9 u10 : Option V, σ = [some (.ref a), some (.ref p), some (.ref N), some (.ref A), some (.ref o.p), some (.ref Lb), some (.ref Lg), u7, u8, u9, u10] ∧ LawS C G p l N A Lb Lg o b t ss c)
        ⟨_, _, _, _, rfl, S⟩ (fun m σ G hm ⟨u7, u8, u9, u10, hσ, S⟩ => ?_) (fun σ G ⟨u7, u8, u9, u10, hσ, S⟩ => ?_)⟩
      · subst hσ
        obtain ⟨wb, hB, hwb⟩ := S.gd
        have lwb : wb.length = 17 := Paired.length hwb
        have pne := S.ne
        dsimp only [gName, List.set]
        refine ⟨_, rfl, _, rfl, _, rfl, Lg, wb, rfl, .inl (SqL.of hB), p, l, _, rfl, S.src, by omega, by rw [lwb]; decide, fun z0 F z00 z01 srF bF => ?_⟩
        obtain ⟨z, rfl⟩ : ∃ z : Nat, z0 = z := ⟨z0.toNat, by omega⟩
        have zl : z < wb.length := by omega
        have SF := S.bt bF srF
        have hBF := bF _ _ (pne Lg (.inr (.inr (.inr (.inl rfl))))).1 (pne Lg (.inr (.inr (.inr (.inl rfl))))).2 hB
        have hy := List.getElem?_eq_getElem zl
        have zl2 : z < goodI.length := by show z < 17; omega
        have hi := List.getElem?_eq_getElem zl2
        have mi : goodI[z] ∈ goodI := List.getElem_mem zl2
        have sx : StepAt F wb[z] (stI (sixN b t) (nmK b t 6) goodI[z]) := StepAt.bt (pair_get hwb hy (by rw [List.getElem?_map, hi]; rfl)) bF S.src
        generalize goodI[z] = it at mi sx hi
        refine ⟨Lg, wb, _, wb[z], rfl, rfl, SqL.of hBF, atI_nat hy, ?_⟩
        obtain ⟨tt, et, ht⟩ := id sx
        rw [et] at sx ⊢
        clear hy et hBF hwb hB hi
        have GI := good_item PA mi NR.np NR.new
        dsimp only [gName, List.set]
        obtain ⟨dxo, hobo⟩ := SF.mv.ob
        have lc : (cF o).lookup ("copy" : Str) = none := f_none (by decide +kernel) (by decide +kernel) (by decide +kernel)
        refine ⟨_, rfl, o.p, dxo, _, rfl, hobo, lc, o, c, rfl, SF.mv, fun o2 F1 s1 on2 hc2 => ?_⟩
        have S1 := SF.same s1
        have sx1 := sx.up s1
        obtain ⟨dx2, hob2⟩ := hc2.ob
        have la : (cF o2).lookup ("add" : Str) = none := f_none (by decide +kernel) (by decide +kernel) (by decide +kernel)
        dsimp only [gName, List.set]
        refine ⟨_, rfl, o2.p, dx2, _, rfl, hob2, la, _, rfl, rfl, ?_⟩
        refine AddOut.sp (K := fun c' => c' = c.add (stI (sixN b t) (nmK b t 6) it)) (Same.refl F1) hc2 ck (GI.out ck sx1.seq rfl) fun st' ck2 eq F2 u2 c2 cg nu => ?_
        rw [eq] at c2 ck2
        have mem : ∀ x, x ∈ [o2.p, o2.s, o2.t] → F x = none := fun x m => by
          rcases List.mem_cons.mp m with rfl | m
          · exact on2.p
          rcases List.mem_cons.mp m with rfl | m
          · exact on2.s
          · obtain rfl := List.mem_singleton.mp m
            exact on2.t
        have s2 : Same F F2 := fun x y q => cg _ _ (s1 _ _ q) fun m => by rw [mem x m] at q; cases q
        have S2 := SF.same s2
        have sx2 := sx.up s2
        obtain ⟨wa, hA2, hwa⟩ := S2.pl
        have lwa : wa.length = 6 := by rw [Paired.length hwa, l6]
        refine ⟨_, rfl, _, rfl, _, rfl, by show 1 ≤ sizeLine; decide, fun L nL => ?_⟩
        have s3 := same_new (o := .lst [.ref tt]) nL
        have hL3 : upd F2 L (.lst [.ref tt]) L = some (.lst [.ref tt]) := upd_same
        generalize upd F2 L (.lst [.ref tt]) = F3 at s3 hL3 ⊢
        refine ⟨A, L, wa, [.ref tt], rfl, rfl, s3 _ _ hA2, hL3, by rw [lwa, sizeLine_eq]; show 6 + 1 ≤ 16777216; decide, fun D nD => ?_⟩
        have s4 := same_new (o := .lst (wa ++ [.ref tt])) nD
        have hD4 : upd F3 D (.lst (wa ++ [.ref tt])) D = some (.lst (wa ++ [.ref tt])) := upd_same
        generalize upd F3 D (.lst (wa ++ [.ref tt])) = F4 at s4 hD4 ⊢
        have s24 := s3.trans s4
        refine ⟨⟨o2.p, o2.s, u2, o2.t⟩, c.add (stI (sixN b t) (nmK b t 6) it), D, _, rfl, c2.up s24, ck2, hD4, ?_, fun F5 s5 => ⟨_, rfl, ifN rfl ?_⟩⟩
        · show Paired _ _ (c.steps ++ [_])
          rw [st]
          exact pair_snoc (sx2.up s24) (pair_imp (fun _ _ q => StepAt.up q s24) hwa)
        have S5 := S2.same (s24.trans s5)
        obtain ⟨wa5, hA5, hwa5⟩ := S5.pl
        refine ⟨_, rfl, _, rfl, o, c, A, wa5, rfl, S5.mv, ck, hA5, by rw [st]; exact hwa5, fun F6 s6 => ⟨_, rfl, ifN rfl ?_⟩⟩
        exact ⟨_, _, _, _, rfl, S5.same s6⟩
      · subst hσ
        dsimp only
        refine ⟨_, rfl, p, l, 3, rfl, S.src, by decide, by decide, fun w0 F w00 w01 srF bF => ⟨_, _, rfl, rfl, _, rfl, ite2 (fun _ => go _) (fun _ => ?_)⟩⟩
        have SF := S.bt bF srF
        obtain ⟨wb, hB, hwb⟩ := SF.bd
        have lwb : wb.length = 29 := Paired.length hwb
        have pne := SF.ne
        refine ⟨_, rfl, _, rfl, _, rfl, _, rfl, _, rfl, _, rfl, Lb, wb, rfl, .inl (SqL.of hB), p, l, _, rfl, SF.src, by omega, by rw [lwb]; decide, fun z0 F2 z00 z01 sr2 b2 => ?_⟩
        obtain ⟨z, rfl⟩ : ∃ z : Nat, z0 = z := ⟨z0.toNat, by omega⟩
        have zl : z < wb.length := by omega
        have S2 := SF.bt b2 sr2
        have hB2 := b2 _ _ (pne Lb (.inr (.inr (.inl rfl)))).1 (pne Lb (.inr (.inr (.inl rfl)))).2 hB
        have hy := List.getElem?_eq_getElem zl
        have zl2 : z < badI.length := by show z < 29; omega
        have hi := List.getElem?_eq_getElem zl2
        have mi : badI[z] ∈ badI := List.getElem_mem zl2
        have sx : StepAt F2 wb[z] (stI (sixN b t) (nmK b t 6) badI[z]) := StepAt.bt (pair_get hwb hy (by rw [List.getElem?_map, hi]; rfl)) b2 SF.src
        obtain ⟨wa, hA2, hwa⟩ := S2.pl
        refine ⟨Lb, wb, _, wb[z], rfl, rfl, SqL.of hB2, atI_nat hy, ?_⟩
        exact ⟨_, _, A, N, wa, [nmK b t 2, nmK b t 3, nmK b t 4, nmK b t 5, nmK b t 6, nmK b t 7, nmK b t 8, nmK b t 9, nmK b t 10, nmK b t 11], sixN b t, i, j, k, n, d, e, ss, c, nmK b t 6, badI[z], rfl, hA2, hwa, S2.hN, PA, NR.sp, mi, NR.np, NR.new, NR.psp, sx, fun G _ => go G⟩
end
end CN

set_option Elab.async false
set_option linter.all false
set_option maxRecDepth 100000
set_option maxHeartbeats 8000000
/-! What the top has written. -/
namespace CN
open PySem L2 K1D K2P
/-- an own error class over the base at B, at C -/
structure ClsFacts (K : PySem.W.Frag) (B C f : Addr) (x fld : Str) : Prop where
  gC : PySem.W.nsIn K mainGlobals x = some (some (.ref C))
  xL : ∃ nm q N bs sn sub ab col dd k0 k1 k2 k3 k5, K.lookup C = some (excClassObj nm q C N bs [.ref B, .type "Exception", .type "BaseException", .type "object"] true sn sub ab col dd k0 k1 k2 k3 k5 "Exception.__new__")
  sa : PySem.W.findIn K (.ref C) "__setattr__" = some (some (.builtin "object.__setattr__"))
  ga : PySem.W.findIn K (.ref C) "__getattribute__" = some (some (.builtin "BaseException.__getattribute__"))
  gg : PySem.W.findIn K (.ref C) "__getattr__" = some none
  nb : PySem.W.findIn K (.ref C) fld = some none
  cc : PySem.W.findIn K (.ref C) "__class__" = some (some (.builtin "object.__class__"))
  iC : PySem.W.findIn K (.ref C) "__init__" = some (some (.ref f))
  tI : PySem.W.typeIn K (.ref f) = some (.type "function")
  kC : PySem.W.keepIn K (.ref C) = true
  tC : PySem.W.typeIn K (.ref C) = some (.type "type")
section
variable {K : PySem.W.Frag} {B C f : Addr} {x fld : Str}
def line (B C : Addr) : List Value := [.ref C, .ref B, .type "Exception", .type "BaseException", .type "object"]
theorem ClsFacts.cls (T : ClsFacts K B C f x fld) : ∃ cd, PySem.W.clsIn K C = some cd ∧ cd.mro = line B C ∧ cd.hasDict = true := by
  obtain ⟨nm, q, N, bs, sn, sub, ab, col, dd, k0, k1, k2, k3, k5, h⟩ := T.xL
  refine ⟨{ name := nm, bases := bs, mro := line B C, ns := N, qualname := q, hasDict := true, slotNames := sn, subclasses := sub, abstract := ab, collection := col, hasDel := false }, ?_, rfl, rfl⟩
  unfold PySem.W.clsIn
  rw [h]
  rfl
theorem ClsFacts.sub (T : ClsFacts K B C f x fld) (v : Value) : PySem.W.subIn K (.ref C) v = some ((line B C).contains v) := by
  obtain ⟨cd, h1, h2, _⟩ := T.cls
  show PySem.W.mroIn K C v = _
  unfold PySem.W.mroIn
  rw [h1, Option.bind_some, h2]
  rfl
theorem ClsFacts.err (T : ClsFacts K B C f x fld) : ErrC K C where
  cls := by
    obtain ⟨nm, q, N, bs, sn, sub, ab, col, dd, k0, k1, k2, k3, k5, h⟩ := T.xL
    exact ⟨nm, q, N, bs, _, sn, sub, ab, col, dd, k0, k1, k2, k3, k5, h, [B], rfl⟩
  sa := T.sa
  exC := (T.sub _).trans (by rfl)
  tyC := T.tC
  kC := T.kC
theorem ClsFacts.has (T : ClsFacts K B C f x fld) : PySem.W.hasDictIn K C = true := by
  obtain ⟨cd, h1, _, h3⟩ := T.cls
  unfold PySem.W.hasDictIn
  rw [h1]
  exact h3
theorem ClsFacts.xf (T : ClsFacts K B C f x fld) : XfC K C := ⟨T.ga, T.gg, (T.sub _).trans (by rfl), T.has⟩
theorem ClsFacts.ask (T : ClsFacts K B C f x fld) (g1 : PySem.W.specialIn K (.builtin "object.__class__") "__get__" = some (some (.builtin "getset_descriptor.__get__"))) (g2 : PySem.W.takesIn K (.builtin "object.__class__") = some true) : AskC K C where
  cl := by
    obtain ⟨cd, h1, _⟩ := T.cls
    rw [h1]
    rfl
  ga := T.ga
  gg := T.gg
  exC := (T.sub _).trans (by rfl)
  cls := T.cc
  get := g1
  tak := g2
  obj := (T.sub _).trans (by rfl)
theorem ref_bne {a b : Addr} (h : a ≠ b) : (Value.ref a == Value.ref b) = false := by simp [h]
theorem kit_of_cls {D : Addr} {b : Bool} (h1 : (PySem.W.clsIn K D).isSome = true) (h2 : PySem.W.typeIn K (.ref D) = some (.type "type")) (h3 : PySem.W.subIn K (.ref C) (.ref D) = some b) (h4 : C = D → b = true) : PySem.W.kitOne K (.ref C) (.ref D) = some b := by
  unfold PySem.W.kitOne
  by_cases e : C = D
  · subst e
    rw [if_pos (by simp), h4 rfl]
  · rw [if_neg (by simp [e])]
    show (if ((PySem.W.clsIn K D).isSome && PySem.W.typeIn K (.ref D) == some (.type "type")) = true then PySem.W.subIn K (.ref C) (.ref D) else none) = _
    rw [h1, h2, if_pos (by rfl), h3]
theorem exm_of_cls {D : Addr} {b : Bool} (h0 : PySem.W.subIn K (.ref D) (.type "BaseException") = some true) (h1 : (PySem.W.clsIn K D).isSome = true) (h2 : PySem.W.typeIn K (.ref D) = some (.type "type")) (h3 : PySem.W.subIn K (.ref C) (.ref D) = some b) : PySem.W.exmOne K (.ref C) (.ref D) = some b := by
  unfold PySem.W.exmOne
  rw [h0, if_pos (by rfl)]
  show (if ((PySem.W.clsIn K D).isSome && PySem.W.typeIn K (.ref D) == some (.type "type")) = true then PySem.W.subIn K (.ref C) (.ref D) else none) = _
  rw [h1, h2, if_pos (by rfl), h3]
theorem ClsFacts.other (T : ClsFacts K B C f x fld) {D : Addr} (hB : D ≠ B) : PySem.W.subIn K (.ref C) (.ref D) = some (decide (C = D)) := by
  rw [T.sub]
  by_cases e : C = D
  · subst e
    simp [line]
  · have e2 : ¬ D = C := fun z => e z.symm
    simp [line, e, e2, hB]
end
/-- a written table with text keys -/
inductive Ent : List DictEntry → List (Str × V) → Prop
  | nil : Ent [] []
  | cons {h : Int} {x : Str} {t : Tok} {u : Value} {v : V} {l : List DictEntry} {m : List (Str × V)} (r : RelV v u) (e : Ent l m) : Ent (⟨h, .str x t, u⟩ :: l) ((x, v) :: m)
theorem isStr_eq (x z : Str) (t : Tok) : (Value.str x t).isStr z = decide (x = z) := by
  by_cases e : x = z
  · subst e
    simp [Value.isStr]
  · simp [Value.isStr, e]
theorem Ent.plain {l : List DictEntry} {m : List (Str × V)} (h : Ent l m) : l.any (·.refKey) = false := by
  induction h with
  | nil => rfl
  | cons r _ ih => rw [List.any_cons, ih]; rfl
theorem Ent.find {l : List DictEntry} {m : List (Str × V)} (h : Ent l m) (z : Str) : (m.find? (fun e => decide (e.1 = z)) = none ∧ l.find? (·.key.isStr z) = none) ∨ ∃ e d, m.find? (fun e => decide (e.1 = z)) = some e ∧ l.find? (·.key.isStr z) = some d ∧ RelV e.2 d.val := by
  induction h with
  | nil => exact .inl ⟨rfl, rfl⟩
  | @cons h x t u v l m r _ ih =>
    rw [List.find?_cons, List.find?_cons, isStr_eq]
    by_cases e : x = z
    · rw [decide_eq_true e]
      exact .inr ⟨_, _, rfl, rfl, r⟩
    · rw [decide_eq_false e]
      exact ih
theorem Ent.ns {K : PySem.W.Frag} {d : Addr} {es : Array DictEntry} {n : Nat} {m : List (Str × V)} (hl : K.lookup d = some ⟨.type "dict", none, .dict es n, #[]⟩) (h : Ent es.toList m) (z : Str) :
    (m.find? (fun e => decide (e.1 = z)) = none ∧ PySem.W.nsIn K d z = some none) ∨ ∃ e u, m.find? (fun e => decide (e.1 = z)) = some e ∧ PySem.W.nsIn K d z = some (some u) ∧ RelV e.2 u := by
  unfold PySem.W.nsIn
  rw [hl]
  rcases h.find z with ⟨h1, h2⟩ | ⟨e, dd, h1, h2, h3⟩
  · refine .inl ⟨h1, ?_⟩
    show (match es.toList.find? (·.key.isStr z) with
      | some e => some (some e.val)
      | none => if es.toList.any (·.refKey) then none else some none) = _
    rw [h2, h.plain]
    rfl
  · refine .inr ⟨e, dd.val, h1, ?_, h3⟩
    show (match es.toList.find? (·.key.isStr z) with
      | some e => some (some e.val)
      | none => if es.toList.any (·.refKey) then none else some none) = _
    rw [h2]

def unksV : List (Str × V) := [("free", .str "xy"), ("slide", .str "t")]
def makersV (mk : Wd → Addr) : List (Str × V) := wds.map fun d => (wdS d, V.ref (mk d))
theorem kw_self {K : PySem.W.Frag} {x qual : Str} {st : Stmt} {f : Addr} {fd : FuncData} {p q : Str} (F : Fun K x qual st f fd)
    (h : ∀ (kV doc pm : Value) (an : Option Addr) (cdv ct a b : Value), bindArgs (PySem.W.fnOf x qual (defArgs st) (defBody st) (defScope st) .none kV doc pm an cdv ct) ⟨[a], [(q, b)]⟩ = pure [(p, a), (q, b)]) : KBn K fd [p, q] 1 [q] (fun us ws => us ++ ws) (fun vs zs => vs ++ zs) := by
  obtain ⟨oc, od, kV, doc, pm, an, cdv, ct, osl, rfl, lk, hcd⟩ := F.ex
  refine ⟨fun s us ws X l1 l2 => ?_, fun r z => r.append z⟩
  match us, ws, l1, l2 with
  | [a], [b], _, _ => exact .of_eq (h kV doc pm an cdv ct a b)
theorem tab_of {K : PySem.W.Frag} {w : World} {d : Addr} {es : Array DictEntry} {n : Nat} {m : List (Str × V)} (hl : K.lookup d = some ⟨.type "dict", none, .dict es n, #[]⟩) (h : Ent es.toList m) (kl : PySem.W.KeysLit w.params es.toList) (lo : (d == sysModules) = false) : KTab K w d m := by
  refine ⟨⟨es, n, ⟨hl, kl, lo⟩, fun z => ?_⟩⟩
  rcases h.ns hl z with ⟨h1, h2⟩ | ⟨e, u, h1, h2, h3⟩
  · exact ⟨none, h2, .inl ⟨by unfold fnd; rw [h1]; rfl, rfl⟩⟩
  · exact ⟨some u, h2, .inr ⟨e.2, u, by unfold fnd; rw [h1]; rfl, rfl, h3⟩⟩
def mkOf (xfree xslide xpart xshift xturn xover xmirror xfoot xmeet xsecond xcentre : Addr) : Wd → Addr
  | .free => xfree
  | .slide => xslide
  | .part => xpart
  | .shift => xshift
  | .turn => xturn
  | .over => xover
  | .mirror => xmirror
  | .foot => xfoot
  | .meet => xmeet
  | .second => xsecond
  | .centre => xcentre
theorem all_mk {l : PySem.W.OpenLaw} {w : World} {K : PySem.W.Frag} {h : Heap} {mg : Str → Option Value} {fa B : Addr} (X : K.In h) (G : h.Ns mainGlobals mg) (hfa : mg "law" = some (.ref fa))
    {CV fV CS fS CI fI CM fM : Addr}
    {NxV : Addr} {nmxV qxV : Str} {bsxV subxV : List Value} {snxV : List Str} {abxV : Bool} {colxV : Option Bool} {ddxV odxV anxV : Option Addr} {mxVa mxVb mxVc mxVd mxVe : Option Value} {ocxV kVxV dcxV pmxV cdxV ctxV : Value} {slxV : Array (Option Value)}
    {NxS : Addr} {nmxS qxS : Str} {bsxS subxS : List Value} {snxS : List Str} {abxS : Bool} {colxS : Option Bool} {ddxS odxS anxS : Option Addr} {mxSa mxSb mxSc mxSd mxSe : Option Value} {ocxS kVxS dcxS pmxS cdxS ctxS : Value} {slxS : Array (Option Value)}
    {NxI : Addr} {nmxI qxI : Str} {bsxI subxI : List Value} {snxI : List Str} {abxI : Bool} {colxI : Option Bool} {ddxI odxI anxI : Option Addr} {mxIa mxIb mxIc mxId mxIe : Option Value} {ocxI kVxI dcxI pmxI cdxI ctxI : Value} {slxI : Array (Option Value)}
    {NxM : Addr} {nmxM qxM : Str} {bsxM subxM : List Value} {snxM : List Str} {abxM : Bool} {colxM : Option Bool} {ddxM odxM anxM : Option Addr} {mxMa mxMb mxMc mxMd mxMe : Option Value} {ocxM kVxM dcxM pmxM cdxM ctxM : Value} {slxM : Array (Option Value)}
    {tLets tFour tGr tP12 tU8 tRad : Tok}
    {dF dU dL dM : Addr} {eF eU eL eM : Array DictEntry} {nF nU nL nM : Nat}
    {CF : Addr}
    {Ffinit : Addr} {od_finit an_finit : Option Addr} {sl_finit : Array (Option Value)} {oc_finit kV_finit dc_finit pm_finit cd_finit ct_finit : Value}
    {Fkey : Addr} {od_key an_key : Option Addr} {sl_key : Array (Option Value)} {oc_key kV_key dc_key pm_key cd_key ct_key : Value}
    {CR : Addr}
    {Fr0 : Addr} {od_r0 an_r0 : Option Addr} {sl_r0 : Array (Option Value)} {oc_r0 kV_r0 dc_r0 pm_r0 cd_r0 ct_r0 : Value}
    {Fr1 : Addr} {od_r1 an_r1 : Option Addr} {sl_r1 : Array (Option Value)} {oc_r1 kV_r1 dc_r1 pm_r1 cd_r1 ct_r1 : Value}
    {Fr2 : Addr} {od_r2 an_r2 : Option Addr} {sl_r2 : Array (Option Value)} {oc_r2 kV_r2 dc_r2 pm_r2 cd_r2 ct_r2 : Value}
    {Fr3 : Addr} {od_r3 an_r3 : Option Addr} {sl_r3 : Array (Option Value)} {oc_r3 kV_r3 dc_r3 pm_r3 cd_r3 ct_r3 : Value}
    {Fr4 : Addr} {od_r4 an_r4 : Option Addr} {sl_r4 : Array (Option Value)} {oc_r4 kV_r4 dc_r4 pm_r4 cd_r4 ct_r4 : Value}
    {C : Addr}
    {Fcinit : Addr} {od_cinit an_cinit : Option Addr} {sl_cinit : Array (Option Value)} {oc_cinit kV_cinit dc_cinit pm_cinit cd_cinit ct_cinit : Value}
    {Fadd : Addr} {od_add an_add : Option Addr} {sl_add : Array (Option Value)} {oc_add kV_add dc_add pm_add cd_add ct_add : Value}
    {Fchk : Addr} {od_chk an_chk : Option Addr} {sl_chk : Array (Option Value)} {oc_chk kV_chk dc_chk pm_chk cd_chk ct_chk : Value}
    {Fsteps : Addr} {od_steps an_steps : Option Addr} {sl_steps : Array (Option Value)} {oc_steps kV_steps dc_steps pm_steps cd_steps ct_steps : Value}
    {Fpoints : Addr} {od_points an_points : Option Addr} {sl_points : Array (Option Value)} {oc_points kV_points dc_points pm_points cd_points ct_points : Value}
    {Funks : Addr} {od_unks an_unks : Option Addr} {sl_unks : Array (Option Value)} {oc_unks kV_unks dc_unks pm_unks cd_unks ct_unks : Value}
    {Fcopy : Addr} {od_copy an_copy : Option Addr} {sl_copy : Array (Option Value)} {oc_copy kV_copy dc_copy pm_copy cd_copy ct_copy : Value}
    {Fisint : Addr} {od_isint an_isint : Option Addr} {sl_isint : Array (Option Value)} {oc_isint kV_isint dc_isint pm_isint cd_isint ct_isint : Value}
    {Fisseq : Addr} {od_isseq an_isseq : Option Addr} {sl_isseq : Array (Option Value)} {oc_isseq kV_isseq dc_isseq pm_isseq cd_isseq ct_isseq : Value}
    {Fisname : Addr} {od_isname an_isname : Option Addr} {sl_isname : Array (Option Value)} {oc_isname kV_isname dc_isname pm_isname cd_isname ct_isname : Value}
    {Fformed : Addr} {od_formed an_formed : Option Addr} {sl_formed : Array (Option Value)} {oc_formed kV_formed dc_formed pm_formed cd_formed ct_formed : Value}
    {Fwrong : Addr} {od_wrong an_wrong : Option Addr} {sl_wrong : Array (Option Value)} {oc_wrong kV_wrong dc_wrong pm_wrong cd_wrong ct_wrong : Value}
    {Fmember : Addr} {od_member an_member : Option Addr} {sl_member : Array (Option Value)} {oc_member kV_member dc_member pm_member cd_member ct_member : Value}
    {Felders : Addr} {od_elders an_elders : Option Addr} {sl_elders : Array (Option Value)} {oc_elders kV_elders dc_elders pm_elders cd_elders ct_elders : Value}
    {Fnewunk : Addr} {od_newunk an_newunk : Option Addr} {sl_newunk : Array (Option Value)} {oc_newunk kV_newunk dc_newunk pm_newunk cd_newunk ct_newunk : Value}
    {Fdif : Addr} {od_dif an_dif : Option Addr} {sl_dif : Array (Option Value)} {oc_dif kV_dif dc_dif pm_dif cd_dif ct_dif : Value}
    {Fplaced : Addr} {od_placed an_placed : Option Addr} {sl_placed : Array (Option Value)} {oc_placed kV_placed dc_placed pm_placed cd_placed ct_placed : Value}
    {Fslid : Addr} {od_slid an_slid : Option Addr} {sl_slid : Array (Option Value)} {oc_slid kV_slid dc_slid pm_slid cd_slid ct_slid : Value}
    {Fparted : Addr} {od_parted an_parted : Option Addr} {sl_parted : Array (Option Value)} {oc_parted kV_parted dc_parted pm_parted cd_parted ct_parted : Value}
    {Fmoved : Addr} {od_moved an_moved : Option Addr} {sl_moved : Array (Option Value)} {oc_moved kV_moved dc_moved pm_moved cd_moved ct_moved : Value}
    {Fshifted : Addr} {od_shifted an_shifted : Option Addr} {sl_shifted : Array (Option Value)} {oc_shifted kV_shifted dc_shifted pm_shifted cd_shifted ct_shifted : Value}
    {Fturned : Addr} {od_turned an_turned : Option Addr} {sl_turned : Array (Option Value)} {oc_turned kV_turned dc_turned pm_turned cd_turned ct_turned : Value}
    {Fbeyond : Addr} {od_beyond an_beyond : Option Addr} {sl_beyond : Array (Option Value)} {oc_beyond kV_beyond dc_beyond pm_beyond cd_beyond ct_beyond : Value}
    {Ffoot : Addr} {od_foot an_foot : Option Addr} {sl_foot : Array (Option Value)} {oc_foot kV_foot dc_foot pm_foot cd_foot ct_foot : Value}
    {Fmirrored : Addr} {od_mirrored an_mirrored : Option Addr} {sl_mirrored : Array (Option Value)} {oc_mirrored kV_mirrored dc_mirrored pm_mirrored cd_mirrored ct_mirrored : Value}
    {Fsecond : Addr} {od_second an_second : Option Addr} {sl_second : Array (Option Value)} {oc_second kV_second dc_second pm_second cd_second ct_second : Value}
    {Fcrossed : Addr} {od_crossed an_crossed : Option Addr} {sl_crossed : Array (Option Value)} {oc_crossed kV_crossed dc_crossed pm_crossed cd_crossed ct_crossed : Value}
    {Fmeet : Addr} {od_meet an_meet : Option Addr} {sl_meet : Array (Option Value)} {oc_meet kV_meet dc_meet pm_meet cd_meet ct_meet : Value}
    {Fcentre : Addr} {od_centre an_centre : Option Addr} {sl_centre : Array (Option Value)} {oc_centre kV_centre dc_centre pm_centre cd_centre ct_centre : Value}
    {Fmade : Addr} {od_made an_made : Option Addr} {sl_made : Array (Option Value)} {oc_made kV_made dc_made pm_made cd_made ct_made : Value}
    {Fnumber : Addr} {od_number an_number : Option Addr} {sl_number : Array (Option Value)} {oc_number kV_number dc_number pm_number cd_number ct_number : Value}
    {Fscaled : Addr} {od_scaled an_scaled : Option Addr} {sl_scaled : Array (Option Value)} {oc_scaled kV_scaled dc_scaled pm_scaled cd_scaled ct_scaled : Value}
    {Fplus : Addr} {od_plus an_plus : Option Addr} {sl_plus : Array (Option Value)} {oc_plus kV_plus dc_plus pm_plus cd_plus ct_plus : Value}
    {Fminus : Addr} {od_minus an_minus : Option Addr} {sl_minus : Array (Option Value)} {oc_minus kV_minus dc_minus pm_minus cd_minus ct_minus : Value}
    {Ftimes : Addr} {od_times an_times : Option Addr} {sl_times : Array (Option Value)} {oc_times kV_times dc_times pm_times cd_times ct_times : Value}
    {Frow : Addr} {od_row an_row : Option Addr} {sl_row : Array (Option Value)} {oc_row kV_row dc_row pm_row cd_row ct_row : Value}
    {Fbuilt : Addr} {od_built an_built : Option Addr} {sl_built : Array (Option Value)} {oc_built kV_built dc_built pm_built cd_built ct_built : Value}
    {Fdraw : Addr} {od_draw an_draw : Option Addr} {sl_draw : Array (Option Value)} {oc_draw kV_draw dc_draw pm_draw cd_draw ct_draw : Value}
    {Flint : Addr} {od_lint an_lint : Option Addr} {sl_lint : Array (Option Value)} {oc_lint kV_lint dc_lint pm_lint cd_lint ct_lint : Value}
    {Fsame : Addr} {od_same an_same : Option Addr} {sl_same : Array (Option Value)} {oc_same kV_same dc_same pm_same cd_same ct_same : Value}
    {Fopen : Addr} {od_open an_open : Option Addr} {sl_open : Array (Option Value)} {oc_open kV_open dc_open pm_open cd_open ct_open : Value}
    {Fnames : Addr} {od_names an_names : Option Addr} {sl_names : Array (Option Value)} {oc_names kV_names dc_names pm_names cd_names ct_names : Value}
    {Flb : Addr} {od_lb an_lb : Option Addr} {sl_lb : Array (Option Value)} {oc_lb kV_lb dc_lb pm_lb cd_lb ct_lb : Value}
    {Fkept : Addr} {od_kept an_kept : Option Addr} {sl_kept : Array (Option Value)} {oc_kept kV_kept dc_kept pm_kept cd_kept ct_kept : Value}
    {Fbase : Addr} {od_base an_base : Option Addr} {sl_base : Array (Option Value)} {oc_base kV_base dc_base pm_base cd_base ct_base : Value}
    {Fbad : Addr} {od_bad an_bad : Option Addr} {sl_bad : Array (Option Value)} {oc_bad kV_bad dc_bad pm_bad cd_bad ct_bad : Value}
    {Fgood : Addr} {od_good an_good : Option Addr} {sl_good : Array (Option Value)} {oc_good kV_good dc_good pm_good cd_good ct_good : Value}
    {Fref : Addr} {od_ref an_ref : Option Addr} {sl_ref : Array (Option Value)} {oc_ref kV_ref dc_ref pm_ref cd_ref ct_ref : Value}
    {Fnotb : Addr} {od_notb an_notb : Option Addr} {sl_notb : Array (Option Value)} {oc_notb kV_notb dc_notb pm_notb cd_notb ct_notb : Value}
    {Ffull : Addr} {od_full an_full : Option Addr} {sl_full : Array (Option Value)} {oc_full kV_full dc_full pm_full cd_full ct_full : Value}
    {Flaw : Addr} {od_law an_law : Option Addr} {sl_law : Array (Option Value)} {oc_law kV_law dc_law pm_law cd_law ct_law : Value}
    (axV : PySem.W.nsIn K mainGlobals "BadValue" = some (some (.ref CV)))
    (xxV : K.lookup CV = some (excClassObj nmxV qxV CV NxV bsxV [.ref B, .type "Exception", .type "BaseException", .type "object"] true snxV subxV abxV colxV ddxV mxVa mxVb mxVc mxVd mxVe "Exception.__new__"))
    (sxV : PySem.W.findIn K (.ref CV) "__setattr__" = some (some (.builtin "object.__setattr__")))
    (gxV : PySem.W.findIn K (.ref CV) "__getattribute__" = some (some (.builtin "BaseException.__getattribute__")))
    (hxV : PySem.W.findIn K (.ref CV) "__getattr__" = some none)
    (nxV : PySem.W.findIn K (.ref CV) "at" = some none)
    (cxV : PySem.W.findIn K (.ref CV) "__class__" = some (some (.builtin "object.__class__")))
    (ixV : PySem.W.findIn K (.ref CV) "__init__" = some (some (.ref fV)))
    (txV : PySem.W.typeIn K (.ref fV) = some (.type "function"))
    (lxV : K.lookup fV = some ⟨ocxV, odxV, .func (PySem.W.fnOf "__init__" "BadValue.__init__" (defArgs sBadValue) (defBody sBadValue) (defScope sBadValue) .none kVxV dcxV pmxV anxV cdxV ctxV), slxV⟩)
    (dxV : PySem.W.codeIn K cdxV "BadValue.__init__" = true)
    (kxV : PySem.W.keepIn K (.ref fV) = true)
    (kkxV : PySem.W.keepIn K (.ref CV) = true)
    (TxV : PySem.W.typeIn K (.ref CV) = some (.type "type"))
    (axS : PySem.W.nsIn K mainGlobals "BadStep" = some (some (.ref CS)))
    (xxS : K.lookup CS = some (excClassObj nmxS qxS CS NxS bsxS [.ref B, .type "Exception", .type "BaseException", .type "object"] true snxS subxS abxS colxS ddxS mxSa mxSb mxSc mxSd mxSe "Exception.__new__"))
    (sxS : PySem.W.findIn K (.ref CS) "__setattr__" = some (some (.builtin "object.__setattr__")))
    (gxS : PySem.W.findIn K (.ref CS) "__getattribute__" = some (some (.builtin "BaseException.__getattribute__")))
    (hxS : PySem.W.findIn K (.ref CS) "__getattr__" = some none)
    (nxS : PySem.W.findIn K (.ref CS) "at" = some none)
    (cxS : PySem.W.findIn K (.ref CS) "__class__" = some (some (.builtin "object.__class__")))
    (ixS : PySem.W.findIn K (.ref CS) "__init__" = some (some (.ref fS)))
    (txS : PySem.W.typeIn K (.ref fS) = some (.type "function"))
    (lxS : K.lookup fS = some ⟨ocxS, odxS, .func (PySem.W.fnOf "__init__" "BadStep.__init__" (defArgs sBadStep) (defBody sBadStep) (defScope sBadStep) .none kVxS dcxS pmxS anxS cdxS ctxS), slxS⟩)
    (dxS : PySem.W.codeIn K cdxS "BadStep.__init__" = true)
    (kxS : PySem.W.keepIn K (.ref fS) = true)
    (kkxS : PySem.W.keepIn K (.ref CS) = true)
    (TxS : PySem.W.typeIn K (.ref CS) = some (.type "type"))
    (axI : PySem.W.nsIn K mainGlobals "Impossible" = some (some (.ref CI)))
    (xxI : K.lookup CI = some (excClassObj nmxI qxI CI NxI bsxI [.ref B, .type "Exception", .type "BaseException", .type "object"] true snxI subxI abxI colxI ddxI mxIa mxIb mxIc mxId mxIe "Exception.__new__"))
    (sxI : PySem.W.findIn K (.ref CI) "__setattr__" = some (some (.builtin "object.__setattr__")))
    (gxI : PySem.W.findIn K (.ref CI) "__getattribute__" = some (some (.builtin "BaseException.__getattribute__")))
    (hxI : PySem.W.findIn K (.ref CI) "__getattr__" = some none)
    (nxI : PySem.W.findIn K (.ref CI) "name" = some none)
    (cxI : PySem.W.findIn K (.ref CI) "__class__" = some (some (.builtin "object.__class__")))
    (ixI : PySem.W.findIn K (.ref CI) "__init__" = some (some (.ref fI)))
    (txI : PySem.W.typeIn K (.ref fI) = some (.type "function"))
    (lxI : K.lookup fI = some ⟨ocxI, odxI, .func (PySem.W.fnOf "__init__" "Impossible.__init__" (defArgs sImpossible) (defBody sImpossible) (defScope sImpossible) .none kVxI dcxI pmxI anxI cdxI ctxI), slxI⟩)
    (dxI : PySem.W.codeIn K cdxI "Impossible.__init__" = true)
    (kxI : PySem.W.keepIn K (.ref fI) = true)
    (kkxI : PySem.W.keepIn K (.ref CI) = true)
    (TxI : PySem.W.typeIn K (.ref CI) = some (.type "type"))
    (axM : PySem.W.nsIn K mainGlobals "TooMany" = some (some (.ref CM)))
    (xxM : K.lookup CM = some (excClassObj nmxM qxM CM NxM bsxM [.ref B, .type "Exception", .type "BaseException", .type "object"] true snxM subxM abxM colxM ddxM mxMa mxMb mxMc mxMd mxMe "Exception.__new__"))
    (sxM : PySem.W.findIn K (.ref CM) "__setattr__" = some (some (.builtin "object.__setattr__")))
    (gxM : PySem.W.findIn K (.ref CM) "__getattribute__" = some (some (.builtin "BaseException.__getattribute__")))
    (hxM : PySem.W.findIn K (.ref CM) "__getattr__" = some none)
    (nxM : PySem.W.findIn K (.ref CM) "word" = some none)
    (cxM : PySem.W.findIn K (.ref CM) "__class__" = some (some (.builtin "object.__class__")))
    (ixM : PySem.W.findIn K (.ref CM) "__init__" = some (some (.ref fM)))
    (txM : PySem.W.typeIn K (.ref fM) = some (.type "function"))
    (lxM : K.lookup fM = some ⟨ocxM, odxM, .func (PySem.W.fnOf "__init__" "TooMany.__init__" (defArgs sTooMany) (defBody sTooMany) (defScope sTooMany) .none kVxM dcxM pmxM anxM cdxM ctxM), slxM⟩)
    (dxM : PySem.W.codeIn K cdxM "TooMany.__init__" = true)
    (kxM : PySem.W.keepIn K (.ref fM) = true)
    (kkxM : PySem.W.keepIn K (.ref CM) = true)
    (TxM : PySem.W.typeIn K (.ref CM) = some (.type "type"))
    (a_CF : PySem.W.nsIn K mainGlobals "Fields" = some (some (.ref CF)))
    (CF_pg : PySem.W.plainGet K CF Str.empty = true)
    (CF_hd : PySem.W.hasDictIn K CF = true)
    (CF_po : PySem.W.plainOver K CF = true)
    (CF_sa : PySem.W.findIn K (.ref CF) "__setattr__" = some (some (.builtin "object.__setattr__")))
    (CF_mk : PySem.W.makesIn K CF = true)
    (CF_kp : PySem.W.keepIn K (.ref CF) = true)
    (F_nN : PySem.W.findIn K (.ref CF) "names" = some none)
    (F_nW : PySem.W.findIn K (.ref CF) "weights" = some none)
    (F_nP : PySem.W.findIn K (.ref CF) "places" = some none)
    (a_finit : PySem.W.findIn K (.ref CF) "__init__" = some (some (.ref Ffinit)))
    (f_finit : PySem.W.isFn K (.ref Ffinit) = true)
    (l_finit : K.lookup Ffinit = some ⟨oc_finit, od_finit, .func (PySem.W.fnOf "__init__" "Fields.__init__" (defArgs sFInit) (defBody sFInit) (defScope sFInit) .none kV_finit dc_finit pm_finit an_finit cd_finit ct_finit), sl_finit⟩)
    (c_finit : PySem.W.codeIn K cd_finit "Fields.__init__" = true)
    (k_finit : PySem.W.keepIn K (.ref Ffinit) = true)
    (a_key : PySem.W.findIn K (.ref CF) "key" = some (some (.ref Fkey)))
    (f_key : PySem.W.isFn K (.ref Fkey) = true)
    (l_key : K.lookup Fkey = some ⟨oc_key, od_key, .func (PySem.W.fnOf "key" "Fields.key" (defArgs sKey) (defBody sKey) (defScope sKey) .none kV_key dc_key pm_key an_key cd_key ct_key), sl_key⟩)
    (c_key : PySem.W.codeIn K cd_key "Fields.key" = true)
    (k_key : PySem.W.keepIn K (.ref Fkey) = true)
    (a_CR : PySem.W.nsIn K mainGlobals "Tables" = some (some (.ref CR)))
    (CR_pg : PySem.W.plainGet K CR Str.empty = true)
    (CR_hd : PySem.W.hasDictIn K CR = true)
    (CR_po : PySem.W.plainOver K CR = true)
    (CR_sa : PySem.W.findIn K (.ref CR) "__setattr__" = some (some (.builtin "object.__setattr__")))
    (CR_mk : PySem.W.makesIn K CR = true)
    (CR_kp : PySem.W.keepIn K (.ref CR) = true)
    (CR_in : PySem.W.findIn K (.ref CR) "__init__" = some (some (.builtin "object.__init__")))
    (a_r0 : PySem.W.findIn K (.ref CR) "number" = some (some (.ref Fr0)))
    (f_r0 : PySem.W.isFn K (.ref Fr0) = true)
    (l_r0 : K.lookup Fr0 = some ⟨oc_r0, od_r0, .func (PySem.W.fnOf "number" "Tables.number" (defArgs (sRing 0)) (defBody (sRing 0)) (defScope (sRing 0)) .none kV_r0 dc_r0 pm_r0 an_r0 cd_r0 ct_r0), sl_r0⟩)
    (c_r0 : PySem.W.codeIn K cd_r0 "Tables.number" = true)
    (k_r0 : PySem.W.keepIn K (.ref Fr0) = true)
    (a_r1 : PySem.W.findIn K (.ref CR) "scaled" = some (some (.ref Fr1)))
    (f_r1 : PySem.W.isFn K (.ref Fr1) = true)
    (l_r1 : K.lookup Fr1 = some ⟨oc_r1, od_r1, .func (PySem.W.fnOf "scaled" "Tables.scaled" (defArgs (sRing 1)) (defBody (sRing 1)) (defScope (sRing 1)) .none kV_r1 dc_r1 pm_r1 an_r1 cd_r1 ct_r1), sl_r1⟩)
    (c_r1 : PySem.W.codeIn K cd_r1 "Tables.scaled" = true)
    (k_r1 : PySem.W.keepIn K (.ref Fr1) = true)
    (a_r2 : PySem.W.findIn K (.ref CR) "plus" = some (some (.ref Fr2)))
    (f_r2 : PySem.W.isFn K (.ref Fr2) = true)
    (l_r2 : K.lookup Fr2 = some ⟨oc_r2, od_r2, .func (PySem.W.fnOf "plus" "Tables.plus" (defArgs (sRing 2)) (defBody (sRing 2)) (defScope (sRing 2)) .none kV_r2 dc_r2 pm_r2 an_r2 cd_r2 ct_r2), sl_r2⟩)
    (c_r2 : PySem.W.codeIn K cd_r2 "Tables.plus" = true)
    (k_r2 : PySem.W.keepIn K (.ref Fr2) = true)
    (a_r3 : PySem.W.findIn K (.ref CR) "minus" = some (some (.ref Fr3)))
    (f_r3 : PySem.W.isFn K (.ref Fr3) = true)
    (l_r3 : K.lookup Fr3 = some ⟨oc_r3, od_r3, .func (PySem.W.fnOf "minus" "Tables.minus" (defArgs (sRing 3)) (defBody (sRing 3)) (defScope (sRing 3)) .none kV_r3 dc_r3 pm_r3 an_r3 cd_r3 ct_r3), sl_r3⟩)
    (c_r3 : PySem.W.codeIn K cd_r3 "Tables.minus" = true)
    (k_r3 : PySem.W.keepIn K (.ref Fr3) = true)
    (a_r4 : PySem.W.findIn K (.ref CR) "times" = some (some (.ref Fr4)))
    (f_r4 : PySem.W.isFn K (.ref Fr4) = true)
    (l_r4 : K.lookup Fr4 = some ⟨oc_r4, od_r4, .func (PySem.W.fnOf "times" "Tables.times" (defArgs (sRing 4)) (defBody (sRing 4)) (defScope (sRing 4)) .none kV_r4 dc_r4 pm_r4 an_r4 cd_r4 ct_r4), sl_r4⟩)
    (c_r4 : PySem.W.codeIn K cd_r4 "Tables.times" = true)
    (k_r4 : PySem.W.keepIn K (.ref Fr4) = true)
    (a_C : PySem.W.nsIn K mainGlobals "Construction" = some (some (.ref C)))
    (C_pg : PySem.W.plainGet K C Str.empty = true)
    (C_hd : PySem.W.hasDictIn K C = true)
    (C_po : PySem.W.plainOver K C = true)
    (C_sa : PySem.W.findIn K (.ref C) "__setattr__" = some (some (.builtin "object.__setattr__")))
    (C_mk : PySem.W.makesIn K C = true)
    (C_kp : PySem.W.keepIn K (.ref C) = true)
    (C_nS : PySem.W.findIn K (.ref C) "_steps" = some none)
    (C_nU : PySem.W.findIn K (.ref C) "_unknowns" = some none)
    (C_nT : PySem.W.findIn K (.ref C) "_triples" = some none)
    (a_cinit : PySem.W.findIn K (.ref C) "__init__" = some (some (.ref Fcinit)))
    (f_cinit : PySem.W.isFn K (.ref Fcinit) = true)
    (l_cinit : K.lookup Fcinit = some ⟨oc_cinit, od_cinit, .func (PySem.W.fnOf "__init__" "Construction.__init__" (defArgs sCInit) (defBody sCInit) (defScope sCInit) .none kV_cinit dc_cinit pm_cinit an_cinit cd_cinit ct_cinit), sl_cinit⟩)
    (c_cinit : PySem.W.codeIn K cd_cinit "Construction.__init__" = true)
    (k_cinit : PySem.W.keepIn K (.ref Fcinit) = true)
    (a_add : PySem.W.findIn K (.ref C) "add" = some (some (.ref Fadd)))
    (f_add : PySem.W.isFn K (.ref Fadd) = true)
    (l_add : K.lookup Fadd = some ⟨oc_add, od_add, .func (PySem.W.fnOf "add" "Construction.add" (defArgs sAdd) (defBody sAdd) (defScope sAdd) .none kV_add dc_add pm_add an_add cd_add ct_add), sl_add⟩)
    (c_add : PySem.W.codeIn K cd_add "Construction.add" = true)
    (k_add : PySem.W.keepIn K (.ref Fadd) = true)
    (a_chk : PySem.W.findIn K (.ref C) "_checked" = some (some (.ref Fchk)))
    (f_chk : PySem.W.isFn K (.ref Fchk) = true)
    (l_chk : K.lookup Fchk = some ⟨oc_chk, od_chk, .func (PySem.W.fnOf "_checked" "Construction._checked" (defArgs sChk) (defBody sChk) (defScope sChk) .none kV_chk dc_chk pm_chk an_chk cd_chk ct_chk), sl_chk⟩)
    (c_chk : PySem.W.codeIn K cd_chk "Construction._checked" = true)
    (k_chk : PySem.W.keepIn K (.ref Fchk) = true)
    (a_steps : PySem.W.findIn K (.ref C) "steps" = some (some (.ref Fsteps)))
    (f_steps : PySem.W.isFn K (.ref Fsteps) = true)
    (l_steps : K.lookup Fsteps = some ⟨oc_steps, od_steps, .func (PySem.W.fnOf "steps" "Construction.steps" (defArgs sSteps) (defBody sSteps) (defScope sSteps) .none kV_steps dc_steps pm_steps an_steps cd_steps ct_steps), sl_steps⟩)
    (c_steps : PySem.W.codeIn K cd_steps "Construction.steps" = true)
    (k_steps : PySem.W.keepIn K (.ref Fsteps) = true)
    (a_points : PySem.W.findIn K (.ref C) "points" = some (some (.ref Fpoints)))
    (f_points : PySem.W.isFn K (.ref Fpoints) = true)
    (l_points : K.lookup Fpoints = some ⟨oc_points, od_points, .func (PySem.W.fnOf "points" "Construction.points" (defArgs sPoints) (defBody sPoints) (defScope sPoints) .none kV_points dc_points pm_points an_points cd_points ct_points), sl_points⟩)
    (c_points : PySem.W.codeIn K cd_points "Construction.points" = true)
    (k_points : PySem.W.keepIn K (.ref Fpoints) = true)
    (a_unks : PySem.W.findIn K (.ref C) "unknowns" = some (some (.ref Funks)))
    (f_unks : PySem.W.isFn K (.ref Funks) = true)
    (l_unks : K.lookup Funks = some ⟨oc_unks, od_unks, .func (PySem.W.fnOf "unknowns" "Construction.unknowns" (defArgs sUnks) (defBody sUnks) (defScope sUnks) .none kV_unks dc_unks pm_unks an_unks cd_unks ct_unks), sl_unks⟩)
    (c_unks : PySem.W.codeIn K cd_unks "Construction.unknowns" = true)
    (k_unks : PySem.W.keepIn K (.ref Funks) = true)
    (a_copy : PySem.W.findIn K (.ref C) "copy" = some (some (.ref Fcopy)))
    (f_copy : PySem.W.isFn K (.ref Fcopy) = true)
    (l_copy : K.lookup Fcopy = some ⟨oc_copy, od_copy, .func (PySem.W.fnOf "copy" "Construction.copy" (defArgs sCopy) (defBody sCopy) (defScope sCopy) .none kV_copy dc_copy pm_copy an_copy cd_copy ct_copy), sl_copy⟩)
    (c_copy : PySem.W.codeIn K cd_copy "Construction.copy" = true)
    (k_copy : PySem.W.keepIn K (.ref Fcopy) = true)
    (a_isint : PySem.W.nsIn K mainGlobals "is_integer" = some (some (.ref Fisint)))
    (l_isint : K.lookup Fisint = some ⟨oc_isint, od_isint, .func (PySem.W.fnOf "is_integer" "is_integer" (defArgs sIsInt) (defBody sIsInt) (defScope sIsInt) .none kV_isint dc_isint pm_isint an_isint cd_isint ct_isint), sl_isint⟩)
    (c_isint : PySem.W.codeIn K cd_isint "is_integer" = true)
    (k_isint : PySem.W.keepIn K (.ref Fisint) = true)
    (a_isseq : PySem.W.nsIn K mainGlobals "is_sequence" = some (some (.ref Fisseq)))
    (l_isseq : K.lookup Fisseq = some ⟨oc_isseq, od_isseq, .func (PySem.W.fnOf "is_sequence" "is_sequence" (defArgs sIsSeq) (defBody sIsSeq) (defScope sIsSeq) .none kV_isseq dc_isseq pm_isseq an_isseq cd_isseq ct_isseq), sl_isseq⟩)
    (c_isseq : PySem.W.codeIn K cd_isseq "is_sequence" = true)
    (k_isseq : PySem.W.keepIn K (.ref Fisseq) = true)
    (a_isname : PySem.W.nsIn K mainGlobals "is_name" = some (some (.ref Fisname)))
    (l_isname : K.lookup Fisname = some ⟨oc_isname, od_isname, .func (PySem.W.fnOf "is_name" "is_name" (defArgs sIsName) (defBody sIsName) (defScope sIsName) .none kV_isname dc_isname pm_isname an_isname cd_isname ct_isname), sl_isname⟩)
    (c_isname : PySem.W.codeIn K cd_isname "is_name" = true)
    (k_isname : PySem.W.keepIn K (.ref Fisname) = true)
    (a_formed : PySem.W.nsIn K mainGlobals "is_formed" = some (some (.ref Fformed)))
    (l_formed : K.lookup Fformed = some ⟨oc_formed, od_formed, .func (PySem.W.fnOf "is_formed" "is_formed" (defArgs sFormed) (defBody sFormed) (defScope sFormed) .none kV_formed dc_formed pm_formed an_formed cd_formed ct_formed), sl_formed⟩)
    (c_formed : PySem.W.codeIn K cd_formed "is_formed" = true)
    (k_formed : PySem.W.keepIn K (.ref Fformed) = true)
    (a_wrong : PySem.W.nsIn K mainGlobals "wrong_behind_name" = some (some (.ref Fwrong)))
    (l_wrong : K.lookup Fwrong = some ⟨oc_wrong, od_wrong, .func (PySem.W.fnOf "wrong_behind_name" "wrong_behind_name" (defArgs sWrong) (defBody sWrong) (defScope sWrong) .none kV_wrong dc_wrong pm_wrong an_wrong cd_wrong ct_wrong), sl_wrong⟩)
    (c_wrong : PySem.W.codeIn K cd_wrong "wrong_behind_name" = true)
    (k_wrong : PySem.W.keepIn K (.ref Fwrong) = true)
    (a_member : PySem.W.nsIn K mainGlobals "_is_member" = some (some (.ref Fmember)))
    (l_member : K.lookup Fmember = some ⟨oc_member, od_member, .func (PySem.W.fnOf "_is_member" "_is_member" (defArgs sMember) (defBody sMember) (defScope sMember) .none kV_member dc_member pm_member an_member cd_member ct_member), sl_member⟩)
    (c_member : PySem.W.codeIn K cd_member "_is_member" = true)
    (k_member : PySem.W.keepIn K (.ref Fmember) = true)
    (a_elders : PySem.W.nsIn K mainGlobals "elders" = some (some (.ref Felders)))
    (l_elders : K.lookup Felders = some ⟨oc_elders, od_elders, .func (PySem.W.fnOf "elders" "elders" (defArgs sElders) (defBody sElders) (defScope sElders) .none kV_elders dc_elders pm_elders an_elders cd_elders ct_elders), sl_elders⟩)
    (c_elders : PySem.W.codeIn K cd_elders "elders" = true)
    (k_elders : PySem.W.keepIn K (.ref Felders) = true)
    (a_newunk : PySem.W.nsIn K mainGlobals "new_unknowns" = some (some (.ref Fnewunk)))
    (l_newunk : K.lookup Fnewunk = some ⟨oc_newunk, od_newunk, .func (PySem.W.fnOf "new_unknowns" "new_unknowns" (defArgs sNewUnk) (defBody sNewUnk) (defScope sNewUnk) .none kV_newunk dc_newunk pm_newunk an_newunk cd_newunk ct_newunk), sl_newunk⟩)
    (c_newunk : PySem.W.codeIn K cd_newunk "new_unknowns" = true)
    (k_newunk : PySem.W.keepIn K (.ref Fnewunk) = true)
    (a_dif : PySem.W.nsIn K mainGlobals "difference" = some (some (.ref Fdif)))
    (l_dif : K.lookup Fdif = some ⟨oc_dif, od_dif, .func (PySem.W.fnOf "difference" "difference" (defArgs sDif) (defBody sDif) (defScope sDif) .none kV_dif dc_dif pm_dif an_dif cd_dif ct_dif), sl_dif⟩)
    (c_dif : PySem.W.codeIn K cd_dif "difference" = true)
    (k_dif : PySem.W.keepIn K (.ref Fdif) = true)
    (a_placed : PySem.W.nsIn K mainGlobals "placed" = some (some (.ref Fplaced)))
    (l_placed : K.lookup Fplaced = some ⟨oc_placed, od_placed, .func (PySem.W.fnOf "placed" "placed" (defArgs sPlaced) (defBody sPlaced) (defScope sPlaced) .none kV_placed dc_placed pm_placed an_placed cd_placed ct_placed), sl_placed⟩)
    (c_placed : PySem.W.codeIn K cd_placed "placed" = true)
    (k_placed : PySem.W.keepIn K (.ref Fplaced) = true)
    (a_slid : PySem.W.nsIn K mainGlobals "slid" = some (some (.ref Fslid)))
    (l_slid : K.lookup Fslid = some ⟨oc_slid, od_slid, .func (PySem.W.fnOf "slid" "slid" (defArgs sSlid) (defBody sSlid) (defScope sSlid) .none kV_slid dc_slid pm_slid an_slid cd_slid ct_slid), sl_slid⟩)
    (c_slid : PySem.W.codeIn K cd_slid "slid" = true)
    (k_slid : PySem.W.keepIn K (.ref Fslid) = true)
    (a_parted : PySem.W.nsIn K mainGlobals "parted" = some (some (.ref Fparted)))
    (l_parted : K.lookup Fparted = some ⟨oc_parted, od_parted, .func (PySem.W.fnOf "parted" "parted" (defArgs sParted) (defBody sParted) (defScope sParted) .none kV_parted dc_parted pm_parted an_parted cd_parted ct_parted), sl_parted⟩)
    (c_parted : PySem.W.codeIn K cd_parted "parted" = true)
    (k_parted : PySem.W.keepIn K (.ref Fparted) = true)
    (a_moved : PySem.W.nsIn K mainGlobals "_moved" = some (some (.ref Fmoved)))
    (l_moved : K.lookup Fmoved = some ⟨oc_moved, od_moved, .func (PySem.W.fnOf "_moved" "_moved" (defArgs sMoved) (defBody sMoved) (defScope sMoved) .none kV_moved dc_moved pm_moved an_moved cd_moved ct_moved), sl_moved⟩)
    (c_moved : PySem.W.codeIn K cd_moved "_moved" = true)
    (k_moved : PySem.W.keepIn K (.ref Fmoved) = true)
    (a_shifted : PySem.W.nsIn K mainGlobals "shifted" = some (some (.ref Fshifted)))
    (l_shifted : K.lookup Fshifted = some ⟨oc_shifted, od_shifted, .func (PySem.W.fnOf "shifted" "shifted" (defArgs sShifted) (defBody sShifted) (defScope sShifted) .none kV_shifted dc_shifted pm_shifted an_shifted cd_shifted ct_shifted), sl_shifted⟩)
    (c_shifted : PySem.W.codeIn K cd_shifted "shifted" = true)
    (k_shifted : PySem.W.keepIn K (.ref Fshifted) = true)
    (a_turned : PySem.W.nsIn K mainGlobals "turned" = some (some (.ref Fturned)))
    (l_turned : K.lookup Fturned = some ⟨oc_turned, od_turned, .func (PySem.W.fnOf "turned" "turned" (defArgs sTurned) (defBody sTurned) (defScope sTurned) .none kV_turned dc_turned pm_turned an_turned cd_turned ct_turned), sl_turned⟩)
    (c_turned : PySem.W.codeIn K cd_turned "turned" = true)
    (k_turned : PySem.W.keepIn K (.ref Fturned) = true)
    (a_beyond : PySem.W.nsIn K mainGlobals "beyond" = some (some (.ref Fbeyond)))
    (l_beyond : K.lookup Fbeyond = some ⟨oc_beyond, od_beyond, .func (PySem.W.fnOf "beyond" "beyond" (defArgs sBeyond) (defBody sBeyond) (defScope sBeyond) .none kV_beyond dc_beyond pm_beyond an_beyond cd_beyond ct_beyond), sl_beyond⟩)
    (c_beyond : PySem.W.codeIn K cd_beyond "beyond" = true)
    (k_beyond : PySem.W.keepIn K (.ref Fbeyond) = true)
    (a_foot : PySem.W.nsIn K mainGlobals "foot" = some (some (.ref Ffoot)))
    (l_foot : K.lookup Ffoot = some ⟨oc_foot, od_foot, .func (PySem.W.fnOf "foot" "foot" (defArgs sFoot) (defBody sFoot) (defScope sFoot) .none kV_foot dc_foot pm_foot an_foot cd_foot ct_foot), sl_foot⟩)
    (c_foot : PySem.W.codeIn K cd_foot "foot" = true)
    (k_foot : PySem.W.keepIn K (.ref Ffoot) = true)
    (a_mirrored : PySem.W.nsIn K mainGlobals "mirrored" = some (some (.ref Fmirrored)))
    (l_mirrored : K.lookup Fmirrored = some ⟨oc_mirrored, od_mirrored, .func (PySem.W.fnOf "mirrored" "mirrored" (defArgs sMirrored) (defBody sMirrored) (defScope sMirrored) .none kV_mirrored dc_mirrored pm_mirrored an_mirrored cd_mirrored ct_mirrored), sl_mirrored⟩)
    (c_mirrored : PySem.W.codeIn K cd_mirrored "mirrored" = true)
    (k_mirrored : PySem.W.keepIn K (.ref Fmirrored) = true)
    (a_second : PySem.W.nsIn K mainGlobals "second" = some (some (.ref Fsecond)))
    (l_second : K.lookup Fsecond = some ⟨oc_second, od_second, .func (PySem.W.fnOf "second" "second" (defArgs sSecond) (defBody sSecond) (defScope sSecond) .none kV_second dc_second pm_second an_second cd_second ct_second), sl_second⟩)
    (c_second : PySem.W.codeIn K cd_second "second" = true)
    (k_second : PySem.W.keepIn K (.ref Fsecond) = true)
    (a_crossed : PySem.W.nsIn K mainGlobals "crossed" = some (some (.ref Fcrossed)))
    (l_crossed : K.lookup Fcrossed = some ⟨oc_crossed, od_crossed, .func (PySem.W.fnOf "crossed" "crossed" (defArgs sCrossed) (defBody sCrossed) (defScope sCrossed) .none kV_crossed dc_crossed pm_crossed an_crossed cd_crossed ct_crossed), sl_crossed⟩)
    (c_crossed : PySem.W.codeIn K cd_crossed "crossed" = true)
    (k_crossed : PySem.W.keepIn K (.ref Fcrossed) = true)
    (a_meet : PySem.W.nsIn K mainGlobals "meet" = some (some (.ref Fmeet)))
    (l_meet : K.lookup Fmeet = some ⟨oc_meet, od_meet, .func (PySem.W.fnOf "meet" "meet" (defArgs sMeet) (defBody sMeet) (defScope sMeet) .none kV_meet dc_meet pm_meet an_meet cd_meet ct_meet), sl_meet⟩)
    (c_meet : PySem.W.codeIn K cd_meet "meet" = true)
    (k_meet : PySem.W.keepIn K (.ref Fmeet) = true)
    (a_centre : PySem.W.nsIn K mainGlobals "centre" = some (some (.ref Fcentre)))
    (l_centre : K.lookup Fcentre = some ⟨oc_centre, od_centre, .func (PySem.W.fnOf "centre" "centre" (defArgs sCentre) (defBody sCentre) (defScope sCentre) .none kV_centre dc_centre pm_centre an_centre cd_centre ct_centre), sl_centre⟩)
    (c_centre : PySem.W.codeIn K cd_centre "centre" = true)
    (k_centre : PySem.W.keepIn K (.ref Fcentre) = true)
    (a_made : PySem.W.nsIn K mainGlobals "made" = some (some (.ref Fmade)))
    (l_made : K.lookup Fmade = some ⟨oc_made, od_made, .func (PySem.W.fnOf "made" "made" (defArgs sMade) (defBody sMade) (defScope sMade) .none kV_made dc_made pm_made an_made cd_made ct_made), sl_made⟩)
    (c_made : PySem.W.codeIn K cd_made "made" = true)
    (k_made : PySem.W.keepIn K (.ref Fmade) = true)
    (a_number : PySem.W.nsIn K mainGlobals "number_tables" = some (some (.ref Fnumber)))
    (l_number : K.lookup Fnumber = some ⟨oc_number, od_number, .func (PySem.W.fnOf "number" "number" (defArgs sNumber) (defBody sNumber) (defScope sNumber) .none kV_number dc_number pm_number an_number cd_number ct_number), sl_number⟩)
    (c_number : PySem.W.codeIn K cd_number "number" = true)
    (k_number : PySem.W.keepIn K (.ref Fnumber) = true)
    (a_scaled : PySem.W.nsIn K mainGlobals "scaled_tables" = some (some (.ref Fscaled)))
    (l_scaled : K.lookup Fscaled = some ⟨oc_scaled, od_scaled, .func (PySem.W.fnOf "scaled" "scaled" (defArgs sScaled) (defBody sScaled) (defScope sScaled) .none kV_scaled dc_scaled pm_scaled an_scaled cd_scaled ct_scaled), sl_scaled⟩)
    (c_scaled : PySem.W.codeIn K cd_scaled "scaled" = true)
    (k_scaled : PySem.W.keepIn K (.ref Fscaled) = true)
    (a_plus : PySem.W.nsIn K mainGlobals "plus_tables" = some (some (.ref Fplus)))
    (l_plus : K.lookup Fplus = some ⟨oc_plus, od_plus, .func (PySem.W.fnOf "plus" "plus" (defArgs sPlus) (defBody sPlus) (defScope sPlus) .none kV_plus dc_plus pm_plus an_plus cd_plus ct_plus), sl_plus⟩)
    (c_plus : PySem.W.codeIn K cd_plus "plus" = true)
    (k_plus : PySem.W.keepIn K (.ref Fplus) = true)
    (a_minus : PySem.W.nsIn K mainGlobals "minus_tables" = some (some (.ref Fminus)))
    (l_minus : K.lookup Fminus = some ⟨oc_minus, od_minus, .func (PySem.W.fnOf "minus" "minus" (defArgs sMinus) (defBody sMinus) (defScope sMinus) .none kV_minus dc_minus pm_minus an_minus cd_minus ct_minus), sl_minus⟩)
    (c_minus : PySem.W.codeIn K cd_minus "minus" = true)
    (k_minus : PySem.W.keepIn K (.ref Fminus) = true)
    (a_times : PySem.W.nsIn K mainGlobals "times_tables" = some (some (.ref Ftimes)))
    (l_times : K.lookup Ftimes = some ⟨oc_times, od_times, .func (PySem.W.fnOf "times" "times" (defArgs sTimes) (defBody sTimes) (defScope sTimes) .none kV_times dc_times pm_times an_times cd_times ct_times), sl_times⟩)
    (c_times : PySem.W.codeIn K cd_times "times" = true)
    (k_times : PySem.W.keepIn K (.ref Ftimes) = true)
    (a_row : PySem.W.nsIn K mainGlobals "_add_row" = some (some (.ref Frow)))
    (l_row : K.lookup Frow = some ⟨oc_row, od_row, .func (PySem.W.fnOf "_add_row" "_add_row" (defArgs sRow) (defBody sRow) (defScope sRow) .none kV_row dc_row pm_row an_row cd_row ct_row), sl_row⟩)
    (c_row : PySem.W.codeIn K cd_row "_add_row" = true)
    (k_row : PySem.W.keepIn K (.ref Frow) = true)
    (a_built : PySem.W.nsIn K mainGlobals "built" = some (some (.ref Fbuilt)))
    (l_built : K.lookup Fbuilt = some ⟨oc_built, od_built, .func (PySem.W.fnOf "built" "built" (defArgs sBuilt) (defBody sBuilt) (defScope sBuilt) .none kV_built dc_built pm_built an_built cd_built ct_built), sl_built⟩)
    (c_built : PySem.W.codeIn K cd_built "built" = true)
    (k_built : PySem.W.keepIn K (.ref Fbuilt) = true)
    (a_draw : PySem.W.nsIn K mainGlobals "_law_draw" = some (some (.ref Fdraw)))
    (l_draw : K.lookup Fdraw = some ⟨oc_draw, od_draw, .func (PySem.W.fnOf "_law_draw" "_law_draw" (defArgs sDraw) (defBody sDraw) (defScope sDraw) .none kV_draw dc_draw pm_draw an_draw cd_draw ct_draw), sl_draw⟩)
    (c_draw : PySem.W.codeIn K cd_draw "_law_draw" = true)
    (k_draw : PySem.W.keepIn K (.ref Fdraw) = true)
    (a_lint : PySem.W.nsIn K mainGlobals "_law_is_int" = some (some (.ref Flint)))
    (l_lint : K.lookup Flint = some ⟨oc_lint, od_lint, .func (PySem.W.fnOf "_law_is_int" "_law_is_int" (defArgs sLInt) (defBody sLInt) (defScope sLInt) .none kV_lint dc_lint pm_lint an_lint cd_lint ct_lint), sl_lint⟩)
    (c_lint : PySem.W.codeIn K cd_lint "_law_is_int" = true)
    (k_lint : PySem.W.keepIn K (.ref Flint) = true)
    (a_same : PySem.W.nsIn K mainGlobals "_law_same" = some (some (.ref Fsame)))
    (l_same : K.lookup Fsame = some ⟨oc_same, od_same, .func (PySem.W.fnOf "_law_same" "_law_same" (defArgs sSame) (defBody sSame) (defScope sSame) .none kV_same dc_same pm_same an_same cd_same ct_same), sl_same⟩)
    (c_same : PySem.W.codeIn K cd_same "_law_same" = true)
    (k_same : PySem.W.keepIn K (.ref Fsame) = true)
    (a_open : PySem.W.nsIn K mainGlobals "_law_open" = some (some (.ref Fopen)))
    (l_open : K.lookup Fopen = some ⟨oc_open, od_open, .func (PySem.W.fnOf "_law_open" "_law_open" (defArgs sOpen) (defBody sOpen) (defScope sOpen) .none kV_open dc_open pm_open an_open cd_open ct_open), sl_open⟩)
    (c_open : PySem.W.codeIn K cd_open "_law_open" = true)
    (k_open : PySem.W.keepIn K (.ref Fopen) = true)
    (a_names : PySem.W.nsIn K mainGlobals "_law_names" = some (some (.ref Fnames)))
    (l_names : K.lookup Fnames = some ⟨oc_names, od_names, .func (PySem.W.fnOf "_law_names" "_law_names" (defArgs sNames) (defBody sNames) (defScope sNames) .none kV_names dc_names pm_names an_names cd_names ct_names), sl_names⟩)
    (c_names : PySem.W.codeIn K cd_names "_law_names" = true)
    (k_names : PySem.W.keepIn K (.ref Fnames) = true)
    (a_lb : PySem.W.nsIn K mainGlobals "_law_build" = some (some (.ref Flb)))
    (l_lb : K.lookup Flb = some ⟨oc_lb, od_lb, .func (PySem.W.fnOf "_law_build" "_law_build" (defArgs sLB) (defBody sLB) (defScope sLB) .none kV_lb dc_lb pm_lb an_lb cd_lb ct_lb), sl_lb⟩)
    (c_lb : PySem.W.codeIn K cd_lb "_law_build" = true)
    (k_lb : PySem.W.keepIn K (.ref Flb) = true)
    (a_kept : PySem.W.nsIn K mainGlobals "_law_kept" = some (some (.ref Fkept)))
    (l_kept : K.lookup Fkept = some ⟨oc_kept, od_kept, .func (PySem.W.fnOf "_law_kept" "_law_kept" (defArgs sKept) (defBody sKept) (defScope sKept) .none kV_kept dc_kept pm_kept an_kept cd_kept ct_kept), sl_kept⟩)
    (c_kept : PySem.W.codeIn K cd_kept "_law_kept" = true)
    (k_kept : PySem.W.keepIn K (.ref Fkept) = true)
    (a_base : PySem.W.nsIn K mainGlobals "_law_base" = some (some (.ref Fbase)))
    (l_base : K.lookup Fbase = some ⟨oc_base, od_base, .func (PySem.W.fnOf "_law_base" "_law_base" (defArgs sBase) (defBody sBase) (defScope sBase) .none kV_base dc_base pm_base an_base cd_base ct_base), sl_base⟩)
    (c_base : PySem.W.codeIn K cd_base "_law_base" = true)
    (k_base : PySem.W.keepIn K (.ref Fbase) = true)
    (a_bad : PySem.W.nsIn K mainGlobals "_law_impossible" = some (some (.ref Fbad)))
    (l_bad : K.lookup Fbad = some ⟨oc_bad, od_bad, .func (PySem.W.fnOf "_law_impossible" "_law_impossible" (defArgs sBad) (defBody sBad) (defScope sBad) .none kV_bad dc_bad pm_bad an_bad cd_bad ct_bad), sl_bad⟩)
    (c_bad : PySem.W.codeIn K cd_bad "_law_impossible" = true)
    (k_bad : PySem.W.keepIn K (.ref Fbad) = true)
    (a_good : PySem.W.nsIn K mainGlobals "_law_possible" = some (some (.ref Fgood)))
    (l_good : K.lookup Fgood = some ⟨oc_good, od_good, .func (PySem.W.fnOf "_law_possible" "_law_possible" (defArgs sGood) (defBody sGood) (defScope sGood) .none kV_good dc_good pm_good an_good cd_good ct_good), sl_good⟩)
    (c_good : PySem.W.codeIn K cd_good "_law_possible" = true)
    (k_good : PySem.W.keepIn K (.ref Fgood) = true)
    (a_ref : PySem.W.nsIn K mainGlobals "_law_refused" = some (some (.ref Fref)))
    (l_ref : K.lookup Fref = some ⟨oc_ref, od_ref, .func (PySem.W.fnOf "_law_refused" "_law_refused" (defArgs sRef) (defBody sRef) (defScope sRef) .none kV_ref dc_ref pm_ref an_ref cd_ref ct_ref), sl_ref⟩)
    (c_ref : PySem.W.codeIn K cd_ref "_law_refused" = true)
    (k_ref : PySem.W.keepIn K (.ref Fref) = true)
    (a_notb : PySem.W.nsIn K mainGlobals "_law_not_built" = some (some (.ref Fnotb)))
    (l_notb : K.lookup Fnotb = some ⟨oc_notb, od_notb, .func (PySem.W.fnOf "_law_not_built" "_law_not_built" (defArgs sNotB) (defBody sNotB) (defScope sNotB) .none kV_notb dc_notb pm_notb an_notb cd_notb ct_notb), sl_notb⟩)
    (c_notb : PySem.W.codeIn K cd_notb "_law_not_built" = true)
    (k_notb : PySem.W.keepIn K (.ref Fnotb) = true)
    (a_full : PySem.W.nsIn K mainGlobals "_law_full" = some (some (.ref Ffull)))
    (l_full : K.lookup Ffull = some ⟨oc_full, od_full, .func (PySem.W.fnOf "_law_full" "_law_full" (defArgs sFull) (defBody sFull) (defScope sFull) .none kV_full dc_full pm_full an_full cd_full ct_full), sl_full⟩)
    (c_full : PySem.W.codeIn K cd_full "_law_full" = true)
    (k_full : PySem.W.keepIn K (.ref Ffull) = true)
    (a_law : PySem.W.nsIn K mainGlobals "law" = some (some (.ref Flaw)))
    (l_law : K.lookup Flaw = some ⟨oc_law, od_law, .func (PySem.W.fnOf "law" "law" (defArgs sLaw) (defBody sLaw) (defScope sLaw) .none kV_law dc_law pm_law an_law cd_law ct_law), sl_law⟩)
    (c_law : PySem.W.codeIn K cd_law "law" = true)
    (k_law : PySem.W.keepIn K (.ref Flaw) = true)
    (aB : PySem.W.nsIn K mainGlobals "FigureError" = some (some (.ref B)))
    (xB : PySem.W.isClsIn K B = true)
    (gB : PySem.W.specialIn K (.ref B) "__getattribute__" = some (some (.builtin "type.__getattribute__")))
    (rB : PySem.W.readsIn (mc := .type "type") K B = true)
    (iB : PySem.W.findCls K (.ref B) (.type "type") "__init__" = some (.val (.builtin "Exception.__init__")))
    (tB : PySem.W.typeIn K (.ref B) = some (.type "type"))
    (eB : PySem.W.subIn K (.ref B) (.type "BaseException") = some true)
    (oG : PySem.W.specialIn K (.builtin "object.__class__") "__get__" = some (some (.builtin "getset_descriptor.__get__")))
    (oT : PySem.W.takesIn K (.builtin "object.__class__") = some true)
    (sIS : PySem.W.subIn K (.ref CI) (.ref CS) = some false)
    (sSI : PySem.W.subIn K (.ref CS) (.ref CI) = some false)
    (sMI : PySem.W.subIn K (.ref CM) (.ref CI) = some false)
    (aLets : PySem.W.nsIn K mainGlobals "LETTERS" = some (some (.str "abcdefghijklmnopqrstuvwxyz" tLets)))
    (aFour : PySem.W.nsIn K mainGlobals "LONGEST_NAME" = some (some (.int 4 tFour)))
    (aGr : PySem.W.nsIn K mainGlobals "GREATEST" = some (some (.int 100 tGr)))
    (aP12 : PySem.W.nsIn K mainGlobals "MOST_POINTS" = some (some (.int 12 tP12)))
    (aU8 : PySem.W.nsIn K mainGlobals "MOST_UNKNOWNS" = some (some (.int 8 tU8)))
    (aRad : PySem.W.nsIn K mainGlobals "RADIX" = some (some (.int 20011 tRad)))
    (aF : PySem.W.nsIn K mainGlobals "FORMS" = some (some (.ref dF)))
    (xF : K.lookup dF = some ⟨.type "dict", none, .dict eF nF, #[]⟩)
    (eF_ : Ent eF.toList formsV)
    (lF_ : PySem.W.KeysLit w.params eF.toList)
    (wF_ : (dF == sysModules) = false)
    (aU : PySem.W.nsIn K mainGlobals "UNKNOWNS" = some (some (.ref dU)))
    (xU : K.lookup dU = some ⟨.type "dict", none, .dict eU nU, #[]⟩)
    (eU_ : Ent eU.toList unksV)
    (lU_ : PySem.W.KeysLit w.params eU.toList)
    (wU_ : (dU == sysModules) = false)
    (aL : PySem.W.nsIn K mainGlobals "LEAST" = some (some (.ref dL)))
    (xL : K.lookup dL = some ⟨.type "dict", none, .dict eL nL, #[]⟩)
    (eL_ : Ent eL.toList leastV)
    (lL_ : PySem.W.KeysLit w.params eL.toList)
    (wL_ : (dL == sysModules) = false)
    (aM : PySem.W.nsIn K mainGlobals "MAKERS" = some (some (.ref dM)))
    (xM : K.lookup dM = some ⟨.type "dict", none, .dict eM nM, #[]⟩)
    (eM_ : Ent eM.toList (makersV (mkOf Fplaced Fslid Fparted Fshifted Fturned Fbeyond Fmirrored Ffoot Fmeet Fsecond Fcentre)))
    (lM_ : PySem.W.KeysLit w.params eM.toList)
    (wM_ : (dM == sysModules) = false)
    (z_len : PySem.W.nsIn K mainGlobals "len" = some none)
    (z_int : PySem.W.nsIn K mainGlobals "int" = some none)
    (z_abs : PySem.W.nsIn K mainGlobals "abs" = some none)
    (z_str : PySem.W.nsIn K mainGlobals "str" = some none)
    (z_all : PySem.W.nsIn K mainGlobals "all" = some none)
    (z_tuple : PySem.W.nsIn K mainGlobals "tuple" = some none)
    (z_isinstance : PySem.W.nsIn K mainGlobals "isinstance" = some none)
    (z_bool : PySem.W.nsIn K mainGlobals "bool" = some none)
    (z_list : PySem.W.nsIn K mainGlobals "list" = some none)
    (z_range : PySem.W.nsIn K mainGlobals "range" = some none)
    (z_enumerate : PySem.W.nsIn K mainGlobals "enumerate" = some none)
    (z_sum : PySem.W.nsIn K mainGlobals "sum" = some none)
    (z_sorted : PySem.W.nsIn K mainGlobals "sorted" = some none)
    (z_divmod : PySem.W.nsIn K mainGlobals "divmod" = some none)
    (z_dict : PySem.W.nsIn K mainGlobals "dict" = some none) :
    ∃ fd : FuncData, (∀ (s : Shared) (v : Value), BindsTo s fd ⟨[v], []⟩ [("script", v)]) ∧ ∀ base : Heap, K.In base → base.Ns mainGlobals mg → FnOk l.prog w K mg base CX0 13 fa fd ["script"] (spLaw K) := by
  have e := hfa.symm.trans (PySem.W.mg_of X G a_law)
  cases e
  have Qisint := fun_mk (st := sIsInt) l_isint c_isint k_isint
  have bisint := Qisint.binds (ps := ["thing"]) fun _ _ _ _ _ _ us hl => match us, hl with | [_], _ => rfl
  have misint := PySem.W.mg_of X G a_isint
  have Qisseq := fun_mk (st := sIsSeq) l_isseq c_isseq k_isseq
  have bisseq := Qisseq.binds (ps := ["thing"]) fun _ _ _ _ _ _ us hl => match us, hl with | [_], _ => rfl
  have misseq := PySem.W.mg_of X G a_isseq
  have Qisname := fun_mk (st := sIsName) l_isname c_isname k_isname
  have bisname := Qisname.binds (ps := ["thing"]) fun _ _ _ _ _ _ us hl => match us, hl with | [_], _ => rfl
  have misname := PySem.W.mg_of X G a_isname
  have Qformed := fun_mk (st := sFormed) l_formed c_formed k_formed
  have bformed := Qformed.binds (ps := ["step"]) fun _ _ _ _ _ _ us hl => match us, hl with | [_], _ => rfl
  have mformed := PySem.W.mg_of X G a_formed
  have Qwrong := fun_mk (st := sWrong) l_wrong c_wrong k_wrong
  have bwrong := Qwrong.binds (ps := ["step", "points"]) fun _ _ _ _ _ _ us hl => match us, hl with | [_, _], _ => rfl
  have mwrong := PySem.W.mg_of X G a_wrong
  have Qmember := fun_mk (st := sMember) l_member c_member k_member
  have bmember := Qmember.binds (ps := ["member", "form", "points"]) fun _ _ _ _ _ _ us hl => match us, hl with | [_, _, _], _ => rfl
  have mmember := PySem.W.mg_of X G a_member
  have Qelders := fun_mk (st := sElders) l_elders c_elders k_elders
  have belders := Qelders.binds (ps := ["step"]) fun _ _ _ _ _ _ us hl => match us, hl with | [_], _ => rfl
  have melders := PySem.W.mg_of X G a_elders
  have Qnewunk := fun_mk (st := sNewUnk) l_newunk c_newunk k_newunk
  have bnewunk := Qnewunk.binds (ps := ["step"]) fun _ _ _ _ _ _ us hl => match us, hl with | [_], _ => rfl
  have mnewunk := PySem.W.mg_of X G a_newunk
  have Qdif := fun_mk (st := sDif) l_dif c_dif k_dif
  have bdif := Qdif.binds (ps := ["ring", "a", "b", "at"]) fun _ _ _ _ _ _ us hl => match us, hl with | [_, _, _, _], _ => rfl
  have mdif := PySem.W.mg_of X G a_dif
  have Qplaced := fun_mk (st := sPlaced) l_placed c_placed k_placed
  have bplaced := Qplaced.binds (ps := ["ring", "x", "y"]) fun _ _ _ _ _ _ us hl => match us, hl with | [_, _, _], _ => rfl
  have mplaced := PySem.W.mg_of X G a_placed
  have Qslid := fun_mk (st := sSlid) l_slid c_slid k_slid
  have bslid := Qslid.binds (ps := ["ring", "a", "b", "t"]) fun _ _ _ _ _ _ us hl => match us, hl with | [_, _, _, _], _ => rfl
  have mslid := PySem.W.mg_of X G a_slid
  have Qparted := fun_mk (st := sParted) l_parted c_parted k_parted
  have bparted := Qparted.binds (ps := ["ring", "a", "b", "n", "d"]) fun _ _ _ _ _ _ us hl => match us, hl with | [_, _, _, _, _], _ => rfl
  have mparted := PySem.W.mg_of X G a_parted
  have Qmoved := fun_mk (st := sMoved) l_moved c_moved k_moved
  have bmoved := Qmoved.binds (ps := ["ring", "q", "across", "up", "weight"]) fun _ _ _ _ _ _ us hl => match us, hl with | [_, _, _, _, _], _ => rfl
  have mmoved := PySem.W.mg_of X G a_moved
  have Qshifted := fun_mk (st := sShifted) l_shifted c_shifted k_shifted
  have bshifted := Qshifted.binds (ps := ["ring", "q", "a", "b"]) fun _ _ _ _ _ _ us hl => match us, hl with | [_, _, _, _], _ => rfl
  have mshifted := PySem.W.mg_of X G a_shifted
  have Qturned := fun_mk (st := sTurned) l_turned c_turned k_turned
  have bturned := Qturned.binds (ps := ["ring", "q", "a", "b"]) fun _ _ _ _ _ _ us hl => match us, hl with | [_, _, _, _], _ => rfl
  have mturned := PySem.W.mg_of X G a_turned
  have Qbeyond := fun_mk (st := sBeyond) l_beyond c_beyond k_beyond
  have bbeyond := Qbeyond.binds (ps := ["ring", "q", "c"]) fun _ _ _ _ _ _ us hl => match us, hl with | [_, _, _], _ => rfl
  have mbeyond := PySem.W.mg_of X G a_beyond
  have Qfoot := fun_mk (st := sFoot) l_foot c_foot k_foot
  have bfoot := Qfoot.binds (ps := ["ring", "q", "a", "b"]) fun _ _ _ _ _ _ us hl => match us, hl with | [_, _, _, _], _ => rfl
  have mfoot := PySem.W.mg_of X G a_foot
  have Qmirrored := fun_mk (st := sMirrored) l_mirrored c_mirrored k_mirrored
  have bmirrored := Qmirrored.binds (ps := ["ring", "q", "a", "b"]) fun _ _ _ _ _ _ us hl => match us, hl with | [_, _, _, _], _ => rfl
  have mmirrored := PySem.W.mg_of X G a_mirrored
  have Qsecond := fun_mk (st := sSecond) l_second c_second k_second
  have bsecond := Qsecond.binds (ps := ["ring", "a", "b", "o"]) fun _ _ _ _ _ _ us hl => match us, hl with | [_, _, _, _], _ => rfl
  have msecond := PySem.W.mg_of X G a_second
  have Qcrossed := fun_mk (st := sCrossed) l_crossed c_crossed k_crossed
  have bcrossed := Qcrossed.binds (ps := ["ring", "one", "other"]) fun _ _ _ _ _ _ us hl => match us, hl with | [_, _, _], _ => rfl
  have mcrossed := PySem.W.mg_of X G a_crossed
  have Qmeet := fun_mk (st := sMeet) l_meet c_meet k_meet
  have bmeet := Qmeet.binds (ps := ["ring", "a", "b", "c", "d"]) fun _ _ _ _ _ _ us hl => match us, hl with | [_, _, _, _, _], _ => rfl
  have mmeet := PySem.W.mg_of X G a_meet
  have Qcentre := fun_mk (st := sCentre) l_centre c_centre k_centre
  have bcentre := Qcentre.binds (ps := ["ring", "a", "b", "c"]) fun _ _ _ _ _ _ us hl => match us, hl with | [_, _, _, _], _ => rfl
  have mcentre := PySem.W.mg_of X G a_centre
  have Qmade := fun_mk (st := sMade) l_made c_made k_made
  have bmade := Qmade.binds (ps := ["ring", "step", "triples", "unknowns"]) fun _ _ _ _ _ _ us hl => match us, hl with | [_, _, _, _], _ => rfl
  have mmade := PySem.W.mg_of X G a_made
  have Qnumber := fun_mk (st := sNumber) l_number c_number k_number
  have bnumber := Qnumber.binds (ps := ["k"]) fun _ _ _ _ _ _ us hl => match us, hl with | [_], _ => rfl
  have mnumber := PySem.W.mg_of X G a_number
  have Qscaled := fun_mk (st := sScaled) l_scaled c_scaled k_scaled
  have bscaled := Qscaled.binds (ps := ["p", "k"]) fun _ _ _ _ _ _ us hl => match us, hl with | [_, _], _ => rfl
  have mscaled := PySem.W.mg_of X G a_scaled
  have Qplus := fun_mk (st := sPlus) l_plus c_plus k_plus
  have bplus := Qplus.binds (ps := ["p", "q"]) fun _ _ _ _ _ _ us hl => match us, hl with | [_, _], _ => rfl
  have mplus := PySem.W.mg_of X G a_plus
  have Qminus := fun_mk (st := sMinus) l_minus c_minus k_minus
  have bminus := Qminus.binds (ps := ["p", "q"]) fun _ _ _ _ _ _ us hl => match us, hl with | [_, _], _ => rfl
  have mminus := PySem.W.mg_of X G a_minus
  have Qtimes := fun_mk (st := sTimes) l_times c_times k_times
  have btimes := Qtimes.binds (ps := ["p", "q"]) fun _ _ _ _ _ _ us hl => match us, hl with | [_, _], _ => rfl
  have mtimes := PySem.W.mg_of X G a_times
  have Qrow := fun_mk (st := sRow) l_row c_row k_row
  have brow := Qrow.binds (ps := ["out", "key", "many", "columns"]) fun _ _ _ _ _ _ us hl => match us, hl with | [_, _, _, _], _ => rfl
  have mrow := PySem.W.mg_of X G a_row
  have Qbuilt := fun_mk (st := sBuilt) l_built c_built k_built
  have bbuilt := Qbuilt.binds (ps := ["steps"]) fun _ _ _ _ _ _ us hl => match us, hl with | [_], _ => rfl
  have mbuilt := PySem.W.mg_of X G a_built
  have Qdraw := fun_mk (st := sDraw) l_draw c_draw k_draw
  have bdraw := Qdraw.binds (ps := ["src", "many"]) fun _ _ _ _ _ _ us hl => match us, hl with | [_, _], _ => rfl
  have mdraw := PySem.W.mg_of X G a_draw
  have Qlint := fun_mk (st := sLInt) l_lint c_lint k_lint
  have blint := Qlint.binds (ps := ["x"]) fun _ _ _ _ _ _ us hl => match us, hl with | [_], _ => rfl
  have mlint := PySem.W.mg_of X G a_lint
  have Qsame := fun_mk (st := sSame) l_same c_same k_same
  have bsame := Qsame.binds (ps := ["told", "due"]) fun _ _ _ _ _ _ us hl => match us, hl with | [_, _], _ => rfl
  have msame := PySem.W.mg_of X G a_same
  have Qopen := fun_mk (st := sOpen) l_open c_open k_open
  have bopen := Qopen.binds (ps := ["plan"]) fun _ _ _ _ _ _ us hl => match us, hl with | [_], _ => rfl
  have mopen := PySem.W.mg_of X G a_open
  have Qnames := fun_mk (st := sNames) l_names c_names k_names
  have bnames := Qnames.binds (ps := ["src"]) fun _ _ _ _ _ _ us hl => match us, hl with | [_], _ => rfl
  have mnames := PySem.W.mg_of X G a_names
  have Qlb := fun_mk (st := sLB) l_lb c_lb k_lb
  have blb := Qlb.binds (ps := ["src", "plan"]) fun _ _ _ _ _ _ us hl => match us, hl with | [_, _], _ => rfl
  have mlb := PySem.W.mg_of X G a_lb
  have Qkept := fun_mk (st := sKept) l_kept c_kept k_kept
  have bkept := Qkept.binds (ps := ["made_v", "plan"]) fun _ _ _ _ _ _ us hl => match us, hl with | [_, _], _ => rfl
  have mkept := PySem.W.mg_of X G a_kept
  have Qbase := fun_mk (st := sBase) l_base c_base k_base
  have bbase := Qbase.binds (ps := ["src", "names"]) fun _ _ _ _ _ _ us hl => match us, hl with | [_, _], _ => rfl
  have mbase := PySem.W.mg_of X G a_base
  have Qbad := fun_mk (st := sBad) l_bad c_bad k_bad
  have bbad := Qbad.binds (ps := ["p", "names"]) fun _ _ _ _ _ _ us hl => match us, hl with | [_, _], _ => rfl
  have mbad := PySem.W.mg_of X G a_bad
  have Qgood := fun_mk (st := sGood) l_good c_good k_good
  have bgood := Qgood.binds (ps := ["p", "names"]) fun _ _ _ _ _ _ us hl => match us, hl with | [_, _], _ => rfl
  have mgood := PySem.W.mg_of X G a_good
  have Qref := fun_mk (st := sRef) l_ref c_ref k_ref
  have bref := Qref.binds (ps := ["made_v", "step", "due"]) fun _ _ _ _ _ _ us hl => match us, hl with | [_, _, _], _ => rfl
  have mref := PySem.W.mg_of X G a_ref
  have Qnotb := fun_mk (st := sNotB) l_notb c_notb k_notb
  have bnotb := Qnotb.binds (ps := ["plan", "step"]) fun _ _ _ _ _ _ us hl => match us, hl with | [_, _], _ => rfl
  have mnotb := PySem.W.mg_of X G a_notb
  have Qfull := fun_mk (st := sFull) l_full c_full k_full
  have bfull := Qfull.binds (ps := ["src", "plan", "names", "step"]) fun _ _ _ _ _ _ us hl => match us, hl with | [_, _, _, _], _ => rfl
  have mfull := PySem.W.mg_of X G a_full
  have Qlaw := fun_mk (st := sLaw) l_law c_law k_law
  have Qfinit := fun_mk (st := sFInit) l_finit c_finit k_finit
  have bfinit := Qfinit.binds (ps := ["self", "names", "radix"]) fun _ _ _ _ _ _ us hl => match us, hl with | [_, _, _], _ => rfl
  have Qkey := fun_mk (st := sKey) l_key c_key k_key
  have bkey := Qkey.binds (ps := ["self", "monomial"]) fun _ _ _ _ _ _ us hl => match us, hl with | [_, _], _ => rfl
  have Qr0 := fun_mk (st := (sRing 0)) l_r0 c_r0 k_r0
  have br0 := Qr0.binds (ps := ["self", "k"]) fun _ _ _ _ _ _ us hl => match us, hl with | [_, _], _ => rfl
  have Qr1 := fun_mk (st := (sRing 1)) l_r1 c_r1 k_r1
  have br1 := Qr1.binds (ps := ["self", "p", "k"]) fun _ _ _ _ _ _ us hl => match us, hl with | [_, _, _], _ => rfl
  have Qr2 := fun_mk (st := (sRing 2)) l_r2 c_r2 k_r2
  have br2 := Qr2.binds (ps := ["self", "p", "q"]) fun _ _ _ _ _ _ us hl => match us, hl with | [_, _, _], _ => rfl
  have Qr3 := fun_mk (st := (sRing 3)) l_r3 c_r3 k_r3
  have br3 := Qr3.binds (ps := ["self", "p", "q"]) fun _ _ _ _ _ _ us hl => match us, hl with | [_, _, _], _ => rfl
  have Qr4 := fun_mk (st := (sRing 4)) l_r4 c_r4 k_r4
  have br4 := Qr4.binds (ps := ["self", "p", "q"]) fun _ _ _ _ _ _ us hl => match us, hl with | [_, _, _], _ => rfl
  have Qcinit := fun_mk (st := sCInit) l_cinit c_cinit k_cinit
  have bcinit := Qcinit.binds (ps := ["self"]) fun _ _ _ _ _ _ us hl => match us, hl with | [_], _ => rfl
  have Qadd := fun_mk (st := sAdd) l_add c_add k_add
  have badd := Qadd.binds (ps := ["self", "step"]) fun _ _ _ _ _ _ us hl => match us, hl with | [_, _], _ => rfl
  have Qchk := fun_mk (st := sChk) l_chk c_chk k_chk
  have bchk := Qchk.binds (ps := ["self", "step"]) fun _ _ _ _ _ _ us hl => match us, hl with | [_, _], _ => rfl
  have Qsteps := fun_mk (st := sSteps) l_steps c_steps k_steps
  have bsteps := Qsteps.binds (ps := ["self"]) fun _ _ _ _ _ _ us hl => match us, hl with | [_], _ => rfl
  have Qpoints := fun_mk (st := sPoints) l_points c_points k_points
  have bpoints := Qpoints.binds (ps := ["self"]) fun _ _ _ _ _ _ us hl => match us, hl with | [_], _ => rfl
  have Qunks := fun_mk (st := sUnks) l_unks c_unks k_unks
  have bunks := Qunks.binds (ps := ["self"]) fun _ _ _ _ _ _ us hl => match us, hl with | [_], _ => rfl
  have Qcopy := fun_mk (st := sCopy) l_copy c_copy k_copy
  have bcopy := Qcopy.binds (ps := ["self"]) fun _ _ _ _ _ _ us hl => match us, hl with | [_], _ => rfl
  refine ⟨PySem.W.fnOf "law" "law" (defArgs sLaw) (defBody sLaw) (defScope sLaw) .none kV_law dc_law pm_law an_law cd_law ct_law, fun s v => .of_eq rfl, fun base _ _ => ?_⟩
  have mz : ∀ {x : Str}, PySem.W.nsIn K mainGlobals x = some none → mg x = none := fun q => PySem.W.mg_none_of X G q
  have clB : (PySem.W.clsIn K B).isSome = true := xB
  have mBE := PySem.W.mg_of X G aB
  have EV : ClsFacts K B CV fV "BadValue" "at" := ⟨axV, ⟨_, _, _, _, _, _, _, _, _, _, _, _, _, _, xxV⟩, sxV, gxV, hxV, nxV, cxV, ixV, txV, kkxV, TxV⟩
  have FV' := fun_mk (st := sBadValue) lxV dxV kxV
  have BV' := FV'.binds (ps := ["self", "at"]) fun _ _ _ _ _ _ us hl => match us, hl with | [_, _], _ => rfl
  have clV : (PySem.W.clsIn K CV).isSome = true := by
    obtain ⟨cd, q, _⟩ := EV.cls
    rw [q]
    rfl
  have TV : ErrT l.prog w K mg base "BadValue" "at" B CV fV _ := ⟨PySem.W.mg_of X G axV, EV.err, ixV, txV, nxV, BV', iniBadValue FV' ⟨gB, rB, iB⟩ mBE, exm_of_cls eB clB tB ((EV.sub _).trans (by simp [line])), EV.ask oG oT, EV.xf⟩
  have kitV : PySem.W.kitOne K (.ref CV) (.ref CV) = some true := kit_of_cls clV TxV ((EV.sub _).trans (by simp [line])) (fun _ => rfl)
  have ES : ClsFacts K B CS fS "BadStep" "at" := ⟨axS, ⟨_, _, _, _, _, _, _, _, _, _, _, _, _, _, xxS⟩, sxS, gxS, hxS, nxS, cxS, ixS, txS, kkxS, TxS⟩
  have FS' := fun_mk (st := sBadStep) lxS dxS kxS
  have BS' := FS'.binds (ps := ["self", "at"]) fun _ _ _ _ _ _ us hl => match us, hl with | [_, _], _ => rfl
  have clS : (PySem.W.clsIn K CS).isSome = true := by
    obtain ⟨cd, q, _⟩ := ES.cls
    rw [q]
    rfl
  have TS : ErrT l.prog w K mg base "BadStep" "at" B CS fS _ := ⟨PySem.W.mg_of X G axS, ES.err, ixS, txS, nxS, BS', iniBadStep FS' ⟨gB, rB, iB⟩ mBE, exm_of_cls eB clB tB ((ES.sub _).trans (by simp [line])), ES.ask oG oT, ES.xf⟩
  have kitS : PySem.W.kitOne K (.ref CS) (.ref CS) = some true := kit_of_cls clS TxS ((ES.sub _).trans (by simp [line])) (fun _ => rfl)
  have EI : ClsFacts K B CI fI "Impossible" "name" := ⟨axI, ⟨_, _, _, _, _, _, _, _, _, _, _, _, _, _, xxI⟩, sxI, gxI, hxI, nxI, cxI, ixI, txI, kkxI, TxI⟩
  have FI' := fun_mk (st := sImpossible) lxI dxI kxI
  have BI' := FI'.binds (ps := ["self", "name"]) fun _ _ _ _ _ _ us hl => match us, hl with | [_, _], _ => rfl
  have clI : (PySem.W.clsIn K CI).isSome = true := by
    obtain ⟨cd, q, _⟩ := EI.cls
    rw [q]
    rfl
  have TI : ErrT l.prog w K mg base "Impossible" "name" B CI fI _ := ⟨PySem.W.mg_of X G axI, EI.err, ixI, txI, nxI, BI', iniImpossible FI' ⟨gB, rB, iB⟩ mBE, exm_of_cls eB clB tB ((EI.sub _).trans (by simp [line])), EI.ask oG oT, EI.xf⟩
  have kitI : PySem.W.kitOne K (.ref CI) (.ref CI) = some true := kit_of_cls clI TxI ((EI.sub _).trans (by simp [line])) (fun _ => rfl)
  have EM : ClsFacts K B CM fM "TooMany" "word" := ⟨axM, ⟨_, _, _, _, _, _, _, _, _, _, _, _, _, _, xxM⟩, sxM, gxM, hxM, nxM, cxM, ixM, txM, kkxM, TxM⟩
  have FM' := fun_mk (st := sTooMany) lxM dxM kxM
  have BM' := FM'.binds (ps := ["self", "word"]) fun _ _ _ _ _ _ us hl => match us, hl with | [_, _], _ => rfl
  have clM : (PySem.W.clsIn K CM).isSome = true := by
    obtain ⟨cd, q, _⟩ := EM.cls
    rw [q]
    rfl
  have TM : ErrT l.prog w K mg base "TooMany" "word" B CM fM _ := ⟨PySem.W.mg_of X G axM, EM.err, ixM, txM, nxM, BM', iniTooMany FM' ⟨gB, rB, iB⟩ mBE, exm_of_cls eB clB tB ((EM.sub _).trans (by simp [line])), EM.ask oG oT, EM.xf⟩
  have kitM : PySem.W.kitOne K (.ref CM) (.ref CM) = some true := kit_of_cls clM TxM ((EM.sub _).trans (by simp [line])) (fun _ => rfl)
  have neIS : CI ≠ CS := fun z => by
    rw [← z, EI.sub] at sIS
    simp [line] at sIS
  have kitIS : PySem.W.kitOne K (.ref CI) (.ref CS) = some false := kit_of_cls clS TxS sIS (fun z => absurd z neIS)
  have neSI : CS ≠ CI := fun z => by
    rw [← z, ES.sub] at sSI
    simp [line] at sSI
  have kitSI : PySem.W.kitOne K (.ref CS) (.ref CI) = some false := kit_of_cls clI TxI sSI (fun z => absurd z neSI)
  have neMI : CM ≠ CI := fun z => by
    rw [← z, EM.sub] at sMI
    simp [line] at sMI
  have kitMI : PySem.W.kitOne K (.ref CM) (.ref CI) = some false := kit_of_cls clI TxI sMI (fun z => absurd z neMI)
  have mB := PySem.W.mg_of X G aB
  have BC : BaseC K B := ⟨gB, rB, iB⟩
  have TK : KindTxt K mg := ⟨mz z_isinstance, mz z_str, mz z_int, mz z_bool, mz z_list, mz z_tuple, mz z_len, mz z_all, mz z_enumerate, ⟨_, PySem.W.mg_of X G aLets⟩, ⟨_, PySem.W.mg_of X G aFour⟩⟩
  have ST : StepTxt K w mg dF dU dL dM := ⟨PySem.W.mg_of X G aF, PySem.W.mg_of X G aU, PySem.W.mg_of X G aL, ⟨_, PySem.W.mg_of X G aGr⟩, tab_of xF eF_ lF_ wF_, tab_of xU eU_ lU_ wU_, tab_of xL eL_ lL_ wL_, PySem.W.mg_of X G aM⟩
  have FT : FldTxt K mg CF := ⟨⟨CF_pg, CF_hd, CF_po, CF_sa⟩, F_nN, F_nW, F_nP, PySem.W.mg_of X G a_CF, mz z_list, mz z_enumerate, mz z_sum, mz z_tuple, mz z_sorted, mz z_len, mz z_divmod⟩
  have CT : ConTxt K mg C := ⟨⟨C_pg, C_hd, C_po, C_sa⟩, C_nS, C_nU, C_nT, PySem.W.mg_of X G a_C⟩
  have AT : AddTxt K mg CR := ⟨PySem.W.mg_of X G a_CR, ⟨CR_mk, CR_in, CR_kp⟩, ⟨_, PySem.W.mg_of X G aP12⟩, ⟨_, PySem.W.mg_of X G aU8⟩, ⟨_, PySem.W.mg_of X G aRad⟩⟩
  have MC : Mk K C Fcinit := ⟨C_mk, a_cinit, f_cinit, C_kp⟩
  have MF : Mk K CF Ffinit := ⟨CF_mk, a_finit, f_finit, CF_kp⟩
  -- tables
  have Grow := ok_row (P := l.prog) (w := w) (mg := mg) (base := base) Qrow
  have TR : RowTxt l.prog w K mg base Frow _ := ⟨Grow, brow, mrow, k_row, mz z_len, mz z_list⟩
  have Gtim := ok_tim (ok_times Qtimes TR btimes mtimes k_times)
  have Gnum := ok_num (P := l.prog) (w := w) (mg := mg) (base := base) Qnumber
  have Gscl := ok_scl (P := l.prog) (w := w) (mg := mg) (base := base) Qscaled
  have Gplu := ok_plu (P := l.prog) (w := w) (mg := mg) (base := base) Qplus
  have Gplu2 := ok_plus2 (P := l.prog) (w := w) (mg := mg) (base := base) Qplus
  have Gsub := fn_sub (P := l.prog) (w := w) (base := base) Qminus Gplu bplus mplus k_plus Gscl bscaled mscaled k_scaled
  have R0 := ok_r0 Qr0 ⟨Gnum, bnumber, mnumber, k_number⟩
  have R1 := ok_r1 Qr1 ⟨Gscl, bscaled, mscaled, k_scaled⟩
  have R2 := ok_r2 Qr2 ⟨Gplu2, bplus, mplus, k_plus⟩
  have R3 := ok_r3 Qr3 ⟨Gsub, bminus, mminus, k_minus⟩
  have R4 := ok_r4 Qr4 ⟨Gtim, btimes, mtimes, k_times⟩
  have RT : RingT l.prog w K mg base CR Fr0 Fr1 Fr2 Fr3 Fr4 _ _ _ _ _ := ⟨⟨CR_pg, CR_hd, CR_po, CR_sa⟩, ⟨R0, br0, ⟨a_r0, f_r0, k_r0⟩⟩, ⟨R1, br1, ⟨a_r1, f_r1, k_r1⟩⟩, ⟨R2, br2, ⟨a_r2, f_r2, k_r2⟩⟩, ⟨R3, br3, ⟨a_r3, f_r3, k_r3⟩⟩, ⟨R4, br4, ⟨a_r4, f_r4, k_r4⟩⟩⟩
  -- makers
  have Gdif := ok_dif Qdif RT
  have Udif : CallT l.prog w K mg base CX0 5 "difference" ["ring", "a", "b", "at"] (spDif CR) Fdif _ := ⟨Gdif, bdif, mdif, k_dif⟩
  have Gpla := ok_placed Qplaced RT
  have Gsli := ok_slid Qslid RT Udif (mz z_range)
  have Gpar := ok_parted Qparted RT Udif (mz z_range)
  have Gmov := ok_moved Qmoved RT
  have Umov : CallT l.prog w K mg base CX0 5 "_moved" ["ring", "q", "across", "up", "weight"] (spMoved CR) Fmoved _ := ⟨Gmov, bmoved, mmoved, k_moved⟩
  have Gshi := ok_shifted Qshifted RT Udif Umov
  have Gtur := ok_turned Qturned RT Udif Umov
  have Gbey := ok_beyond Qbeyond RT (mz z_range)
  have Gfoo := ok_foot Qfoot RT Udif
  have Gmir := ok_mirrored Qmirrored ⟨Gbey, bbeyond, mbeyond, k_beyond⟩ ⟨Gfoo, bfoot, mfoot, k_foot⟩
  have Gsec := ok_second Qsecond ⟨Gbey, bbeyond, mbeyond, k_beyond⟩ ⟨Gfoo, bfoot, mfoot, k_foot⟩
  have Gcro := ok_crossed Qcrossed RT
  have Gmee := ok_meet Qmeet ⟨Gcro, bcrossed, mcrossed, k_crossed⟩
  have Gcen := ok_centre Qcentre ⟨Gpar, bparted, mparted, k_parted⟩ ⟨Gtur, bturned, mturned, k_turned⟩ ⟨Gmee, bmeet, mmeet, k_meet⟩
  have MT : MakersT l.prog w K mg base CR dM (mkOf Fplaced Fslid Fparted Fshifted Fturned Fbeyond Fmirrored Ffoot Fmeet Fsecond Fcentre) := ⟨tab_of xM eM_ lM_ wM_, fun d => by
    cases d
    · exact held_of Gpla k_placed bplaced (by decide) fun _ _ _ _ => mk_free
    · exact held_of Gsli k_slid bslid (by decide) fun _ _ _ _ => mk_slide
    · exact held_of Gpar k_parted bparted (by decide) fun _ _ _ _ => mk_part
    · exact held_of Gshi k_shifted bshifted (by decide) fun _ _ _ _ => mk_three rfl rfl rfl fun _ _ _ => rfl
    · exact held_of Gtur k_turned bturned (by decide) fun _ _ _ _ => mk_three rfl rfl rfl fun _ _ _ => rfl
    · exact held_of Gbey k_beyond bbeyond (by decide) fun _ _ _ _ => mk_over
    · exact held_of Gmir k_mirrored bmirrored (by decide) fun _ _ _ _ => mk_three rfl rfl rfl fun _ _ _ => rfl
    · exact held_of Gfoo k_foot bfoot (by decide) fun _ _ _ _ => mk_three rfl rfl rfl fun _ _ _ => rfl
    · exact held_of Gmee k_meet bmeet (by decide) fun _ _ _ _ => mk_meet
    · exact held_of Gsec k_second bsecond (by decide) fun _ _ _ _ => mk_three rfl rfl rfl fun _ _ _ => rfl
    · exact held_of Gcen k_centre bcentre (by decide) fun _ _ _ _ => mk_three rfl rfl rfl fun _ _ _ => rfl⟩
  -- steps
  have Gisi := ok_isint (P := l.prog) (w := w) (base := base) Qisint TK
  have Giss := ok_isseq (P := l.prog) (w := w) (base := base) Qisseq TK
  have Gisn := CN.ok_isname (P := l.prog) (w := w) (base := base) Qisname TK
  have UQ : CallT l.prog w K mg base CX0 1 "is_sequence" ["thing"] spIsSeq Fisseq _ := ⟨Giss, bisseq, misseq, k_isseq⟩
  have Gfor := ok_formed Qformed TK ST UQ
  have Gmem := ok_member Qmember TK ST ⟨Gisi, bisint, misint, k_isint⟩
  have Gwro := ok_wrong Qwrong TK ST ⟨Gmem, bmember, mmember, k_member⟩
  have Geld := ok_elders (P := l.prog) (w := w) (base := base) Qelders TK ST
  have Gnew := ok_newunk (P := l.prog) (w := w) (base := base) Qnewunk TK ST
  have UN : CallT l.prog w K mg base CX0 1 "new_unknowns" ["step"] spNewUnk Fnewunk _ := ⟨Gnew, bnewunk, mnewunk, k_newunk⟩
  have Gmad := ok_made Qmade TK ST MT ⟨Geld, belders, melders, k_elders⟩ UN
  -- Fields, Construction
  have Gfin := ok_finit (P := l.prog) (w := w) (base := base) Qfinit FT
  have Gkey := ok_key1 (P := l.prog) (w := w) (base := base) Qkey FT
  have Gchk := ok_chk Qchk TK CT TS ⟨Gfor, bformed, mformed, k_formed⟩ ⟨Gisn, bisname, misname, k_isname⟩ ⟨Gwro, bwrong, mwrong, k_wrong⟩
  have Gadd := ok_add Qadd TK CT AT FT MF TM TI ⟨Gchk, bchk, ⟨a_chk, f_chk, k_chk⟩⟩ UN ⟨Gfin, bfinit⟩ ⟨Gkey, bkey, ⟨a_key, f_key, k_key⟩⟩ ⟨Gmad, bmade, mmade, k_made⟩
  have UA : MethX l.prog w K mg base C 10 "add" ["self", "step"] (spAdd C CS CI CM) Fadd _ := ⟨Gadd, badd, ⟨a_add, f_add, k_add⟩⟩
  have Gcin := ok_cinit (P := l.prog) (w := w) (base := base) Qcinit CT
  have UI : InitT l.prog w K mg base 1 ["self"] (spCInit C) Fcinit _ := ⟨Gcin, bcinit⟩
  have Gste := ok_steps (P := l.prog) (w := w) (base := base) Qsteps TK CT
  have Gpoi := ok_points (P := l.prog) (w := w) (base := base) Qpoints TK CT
  have Gunk := ok_unks (P := l.prog) (w := w) (base := base) Qunks TK CT
  have Gcop := ok_copy Qcopy TK CT (mz z_dict) MC UI
  have Gbui := ok_built Qbuilt TK CT MC UI UQ UA TV
  have LT : ListTxt mg := ⟨mz z_int, mz z_range, mz z_len, mz z_list, mz z_tuple⟩
  have Gdra := ok_draw (P := l.prog) (w := w) (base := base) Qdraw ⟨mz z_len, mz z_int, mz z_abs⟩
  have UD : CallT l.prog w K mg base CX0 1 "_law_draw" ["src", "many"] spDraw Fdraw _ := ⟨Gdra, bdraw, mdraw, k_draw⟩
  have SM : SameTxt K mg Fsame := ⟨mz z_isinstance, mz z_tuple, mz z_bool, mz z_str, mz z_int, mz z_len, mz z_all, mz z_range, msame, k_same⟩
  have Glin := ok_lint (P := l.prog) (w := w) (base := base) Qlint SM
  have GliH := ok_lintH (P := l.prog) (w := w) (base := base) Qlint SM
  have UL : CallT l.prog w K mg base CX0 1 "_law_is_int" ["x"] spLInt Flint _ := ⟨Glin, blint, mlint, k_lint⟩
  have Gsam := ok_same Qsame bsame SM UL (by decide) (ok_same Qsame bsame SM UL (by decide) (ok_same0 Qsame SM UL))
  have US : CallT l.prog w K mg base CX0 4 "_law_same" ["told", "due"] (spSame 2) Fsame _ := ⟨Gsam, bsame, msame, k_same⟩
  have GsaH := ok_sameH Qsame SM ⟨GliH, blint, mlint, k_lint⟩
  have UH : HotT l.prog w K mg base 2 "_law_same" ["told", "due"] (spSame 0) Fsame _ := ⟨GsaH, bsame, msame, k_same⟩
  have Gope := ok_open (P := l.prog) (w := w) (mg := mg) (base := base) Qopen
  have Gnam := ok_names Qnames LT UD
  have Gkep := ok_kept Qkept LT CT US ⟨Gste, bsteps, ⟨a_steps, f_steps, k_steps⟩⟩ ⟨Gpoi, bpoints, ⟨a_points, f_points, k_points⟩⟩ ⟨Gunk, bunks, ⟨a_unks, f_unks, k_unks⟩⟩ ⟨Gope, bopen, mopen, k_open⟩
  have Gbas := ok_base Qbase LT UD
  have Gbad := ok_badL (P := l.prog) (w := w) (mg := mg) (base := base) Qbad
  have Ggoo := ok_goodL (P := l.prog) (w := w) (mg := mg) (base := base) Qgood
  have UB : CallX l.prog w K mg base 11 "built" ["steps"] (spBuilt C CS CI CM CV) Fbuilt _ := ⟨Gbui, bbuilt, mbuilt, k_built⟩
  have Glb := ok_lb Qlb LT CT MC UI UD UB UA
  have KT : KitT K CS CI CM := ⟨kitI, kitIS, kitS, kitSI, kitM, kitMI⟩
  have Gref := ok_ref Qref TK CT mBE TS TI TM KT UA UH
  have Gnot := ok_notb Qnotb TK mBE TI KT UB UH
  have UR : CallT l.prog w K mg base CX0 11 "_law_refused" ["made_v", "step", "due"] (spRef C CS CI CM) Fref _ := ⟨Gref, bref, mref, k_ref⟩
  have UK : CallT l.prog w K mg base CX0 5 "_law_kept" ["made_v", "plan"] (spKept C) Fkept _ := ⟨Gkep, bkept, mkept, k_kept⟩
  have Gful := ok_full Qfull LT UB (kw_one Qbuilt (fun _ _ _ _ _ _ _ => rfl)) UR UK
  exact ok_law Qlaw ⟨LT, CT, UD, UR, UK, ⟨Gnot, bnotb, mnotb, k_notb⟩, ⟨Gnam, bnames, mnames, k_names⟩, ⟨Gbas, bbase, mbase, k_base⟩, ⟨Glb, blb, mlb, k_lb⟩, ⟨Gbad, bbad, mbad, k_bad⟩, ⟨Ggoo, bgood, mgood, k_good⟩, ⟨Gful, bfull, mfull, k_full⟩, ⟨Gcop, bcopy, ⟨a_copy, f_copy, k_copy⟩⟩, UA, kw_self Qadd (fun _ _ _ _ _ _ _ _ => rfl)⟩
end CN

set_option Elab.async false
set_option linter.all false
set_option maxRecDepth 100000
namespace CN
open PySem L2
theorem walk {l : PySem.W.OpenLaw} {q : Program} {loose : List Str} {XP : (Str → Option Value) → Heap → Prop} {YP : World → Heap → Prop} {d : DefRec} {K : Params → PySem.W.Frag} (hn : l.most = some 63) (hdf : d.params.defaults = [])
    (hY : ∀ (w : World) (h : Heap), YP w h → (K w.params).In h)
    (F : ∀ (w : World) (mg : Str → Option Value) (fa : Addr) (h : Heap), XP mg h → (K w.params).In h → h.Ns mainGlobals mg → mg d.name = some (.ref fa) →
      ∃ fd : FuncData, (∀ (s : Shared) (u : Value), BindsTo s fd ⟨[u], []⟩ [("script", u)]) ∧ ∀ base : Heap, (K w.params).In base → base.Ns mainGlobals mg → FnOk l.prog w (K w.params) mg base CX0 13 fa fd ["script"] (spLaw (K w.params))) :
    PySem.W.WalkO q loose XP YP l.row.toRowW d [] (fun f vs => PySem.call f vs) := by
  refine Att.attach_call hn hdf fun w s₀ s₁ mg mb fa o pm cd doc a vs ns GG Y ho hd hcd hmg hobj hints hlen hg => ?_
  have KX := hY w _ Y
  obtain ⟨fd, hb, hF⟩ := F w mg fa _ GG.X KX GG.T.g hmg
  exact law_call (k := 13) KX GG.T.g GG.T.b GG.T.builtins GG.T.nolimit hg hobj hints (Nat.le_trans hlen (by decide)) ⟨rfl, by decide, by decide⟩ hF hb (fun H hO hS => ⟨a, ns, rfl, hS, by omega, fun _ => rfl⟩) fun _ _ _ z => z
end CN
open PySem PySem.W PyProof.Rows in
set_option maxRecDepth 100000 in
set_option maxHeartbeats 0 in
theorem PySem.Challenge.cw_figurehold_k12_impossible_steps_holds : PySem.Challenge.rw_figurehold_k12_impossible_steps.Holds := by
  w_on; o_law; k_head; (case hw => w_witness2)
  k_fill
  refine CN.walk (l := PySem.Challenge.rw_figurehold_k12_impossible_steps) rfl rfl (fun w h Y => PySem.W.kIn_of Y) ?F
  case F =>
    intro w mg fa h XX KX G hmg
    refine' CN.all_mk KX G hmg ?zz_axV ?zz_xxV ?zz_sxV ?zz_gxV ?zz_hxV ?zz_nxV ?zz_cxV ?zz_ixV ?zz_txV ?zz_lxV ?zz_dxV ?zz_kxV ?zz_kkxV ?zz_TxV ?zz_axS ?zz_xxS ?zz_sxS ?zz_gxS ?zz_hxS ?zz_nxS ?zz_cxS ?zz_ixS ?zz_txS ?zz_lxS ?zz_dxS ?zz_kxS ?zz_kkxS ?zz_TxS ?zz_axI ?zz_xxI ?zz_sxI ?zz_gxI ?zz_hxI ?zz_nxI ?zz_cxI ?zz_ixI ?zz_txI ?zz_lxI ?zz_dxI ?zz_kxI ?zz_kkxI ?zz_TxI ?zz_axM ?zz_xxM ?zz_sxM ?zz_gxM ?zz_hxM ?zz_nxM ?zz_cxM ?zz_ixM ?zz_txM ?zz_lxM ?zz_dxM ?zz_kxM ?zz_kkxM ?zz_TxM ?zz_a_CF ?zz_CF_pg ?zz_CF_hd ?zz_CF_po ?zz_CF_sa ?zz_CF_mk ?zz_CF_kp ?zz_F_nN ?zz_F_nW ?zz_F_nP ?zz_a_finit ?zz_f_finit ?zz_l_finit ?zz_c_finit ?zz_k_finit ?zz_a_key ?zz_f_key ?zz_l_key ?zz_c_key ?zz_k_key ?zz_a_CR ?zz_CR_pg ?zz_CR_hd ?zz_CR_po ?zz_CR_sa ?zz_CR_mk ?zz_CR_kp ?zz_CR_in ?zz_a_r0 ?zz_f_r0 ?zz_l_r0 ?zz_c_r0 ?zz_k_r0 ?zz_a_r1 ?zz_f_r1 ?zz_l_r1 ?zz_c_r1 ?zz_k_r1 ?zz_a_r2 ?zz_f_r2 ?zz_l_r2 ?zz_c_r2 ?zz_k_r2 ?zz_a_r3 ?zz_f_r3 ?zz_l_r3 ?zz_c_r3 ?zz_k_r3 ?zz_a_r4 ?zz_f_r4 ?zz_l_r4 ?zz_c_r4 ?zz_k_r4 ?zz_a_C ?zz_C_pg ?zz_C_hd ?zz_C_po ?zz_C_sa ?zz_C_mk ?zz_C_kp ?zz_C_nS ?zz_C_nU ?zz_C_nT ?zz_a_cinit ?zz_f_cinit ?zz_l_cinit ?zz_c_cinit ?zz_k_cinit ?zz_a_add ?zz_f_add ?zz_l_add ?zz_c_add ?zz_k_add ?zz_a_chk ?zz_f_chk ?zz_l_chk ?zz_c_chk ?zz_k_chk ?zz_a_steps ?zz_f_steps ?zz_l_steps ?zz_c_steps ?zz_k_steps ?zz_a_points ?zz_f_points ?zz_l_points ?zz_c_points ?zz_k_points ?zz_a_unks ?zz_f_unks ?zz_l_unks ?zz_c_unks ?zz_k_unks ?zz_a_copy ?zz_f_copy ?zz_l_copy ?zz_c_copy ?zz_k_copy ?zz_a_isint ?zz_l_isint ?zz_c_isint ?zz_k_isint ?zz_a_isseq ?zz_l_isseq ?zz_c_isseq ?zz_k_isseq ?zz_a_isname ?zz_l_isname ?zz_c_isname ?zz_k_isname ?zz_a_formed ?zz_l_formed ?zz_c_formed ?zz_k_formed ?zz_a_wrong ?zz_l_wrong ?zz_c_wrong ?zz_k_wrong ?zz_a_member ?zz_l_member ?zz_c_member ?zz_k_member ?zz_a_elders ?zz_l_elders ?zz_c_elders ?zz_k_elders ?zz_a_newunk ?zz_l_newunk ?zz_c_newunk ?zz_k_newunk ?zz_a_dif ?zz_l_dif ?zz_c_dif ?zz_k_dif ?zz_a_placed ?zz_l_placed ?zz_c_placed ?zz_k_placed ?zz_a_slid ?zz_l_slid ?zz_c_slid ?zz_k_slid ?zz_a_parted ?zz_l_parted ?zz_c_parted ?zz_k_parted ?zz_a_moved ?zz_l_moved ?zz_c_moved ?zz_k_moved ?zz_a_shifted ?zz_l_shifted ?zz_c_shifted ?zz_k_shifted ?zz_a_turned ?zz_l_turned ?zz_c_turned ?zz_k_turned ?zz_a_beyond ?zz_l_beyond ?zz_c_beyond ?zz_k_beyond ?zz_a_foot ?zz_l_foot ?zz_c_foot ?zz_k_foot ?zz_a_mirrored ?zz_l_mirrored ?zz_c_mirrored ?zz_k_mirrored ?zz_a_second ?zz_l_second ?zz_c_second ?zz_k_second ?zz_a_crossed ?zz_l_crossed ?zz_c_crossed ?zz_k_crossed ?zz_a_meet ?zz_l_meet ?zz_c_meet ?zz_k_meet ?zz_a_centre ?zz_l_centre ?zz_c_centre ?zz_k_centre ?zz_a_made ?zz_l_made ?zz_c_made ?zz_k_made ?zz_a_number ?zz_l_number ?zz_c_number ?zz_k_number ?zz_a_scaled ?zz_l_scaled ?zz_c_scaled ?zz_k_scaled ?zz_a_plus ?zz_l_plus ?zz_c_plus ?zz_k_plus ?zz_a_minus ?zz_l_minus ?zz_c_minus ?zz_k_minus ?zz_a_times ?zz_l_times ?zz_c_times ?zz_k_times ?zz_a_row ?zz_l_row ?zz_c_row ?zz_k_row ?zz_a_built ?zz_l_built ?zz_c_built ?zz_k_built ?zz_a_draw ?zz_l_draw ?zz_c_draw ?zz_k_draw ?zz_a_lint ?zz_l_lint ?zz_c_lint ?zz_k_lint ?zz_a_same ?zz_l_same ?zz_c_same ?zz_k_same ?zz_a_open ?zz_l_open ?zz_c_open ?zz_k_open ?zz_a_names ?zz_l_names ?zz_c_names ?zz_k_names ?zz_a_lb ?zz_l_lb ?zz_c_lb ?zz_k_lb ?zz_a_kept ?zz_l_kept ?zz_c_kept ?zz_k_kept ?zz_a_base ?zz_l_base ?zz_c_base ?zz_k_base ?zz_a_bad ?zz_l_bad ?zz_c_bad ?zz_k_bad ?zz_a_good ?zz_l_good ?zz_c_good ?zz_k_good ?zz_a_ref ?zz_l_ref ?zz_c_ref ?zz_k_ref ?zz_a_notb ?zz_l_notb ?zz_c_notb ?zz_k_notb ?zz_a_full ?zz_l_full ?zz_c_full ?zz_k_full ?zz_a_law ?zz_l_law ?zz_c_law ?zz_k_law ?zz_aB ?zz_xB ?zz_gB ?zz_rB ?zz_iB ?zz_tB ?zz_eB ?zz_oG ?zz_oT ?zz_sIS ?zz_sSI ?zz_sMI ?zz_aLets ?zz_aFour ?zz_aGr ?zz_aP12 ?zz_aU8 ?zz_aRad ?zz_aF ?zz_xF ?zz_eF_ ?zz_lF_ ?zz_wF_ ?zz_aU ?zz_xU ?zz_eU_ ?zz_lU_ ?zz_wU_ ?zz_aL ?zz_xL ?zz_eL_ ?zz_lL_ ?zz_wL_ ?zz_aM ?zz_xM ?zz_eM_ ?zz_lM_ ?zz_wM_ ?zz_z_len ?zz_z_int ?zz_z_abs ?zz_z_str ?zz_z_all ?zz_z_tuple ?zz_z_isinstance ?zz_z_bool ?zz_z_list ?zz_z_range ?zz_z_enumerate ?zz_z_sum ?zz_z_sorted ?zz_z_divmod ?zz_z_dict
    (case zz_axV => k_is)
    (case zz_xxV => k_is)
    (case zz_sxV => k_is)
    (case zz_gxV => k_is)
    (case zz_hxV => k_is)
    (case zz_nxV => k_is)
    (case zz_cxV => k_is)
    (case zz_ixV => k_is)
    (case zz_txV => k_is)
    (case zz_lxV => k_is)
    (case zz_dxV => k_is)
    (case zz_kxV => k_is)
    (case zz_kkxV => k_is)
    (case zz_TxV => k_is)
    (case zz_axS => k_is)
    (case zz_xxS => k_is)
    (case zz_sxS => k_is)
    (case zz_gxS => k_is)
    (case zz_hxS => k_is)
    (case zz_nxS => k_is)
    (case zz_cxS => k_is)
    (case zz_ixS => k_is)
    (case zz_txS => k_is)
    (case zz_lxS => k_is)
    (case zz_dxS => k_is)
    (case zz_kxS => k_is)
    (case zz_kkxS => k_is)
    (case zz_TxS => k_is)
    (case zz_axI => k_is)
    (case zz_xxI => k_is)
    (case zz_sxI => k_is)
    (case zz_gxI => k_is)
    (case zz_hxI => k_is)
    (case zz_nxI => k_is)
    (case zz_cxI => k_is)
    (case zz_ixI => k_is)
    (case zz_txI => k_is)
    (case zz_lxI => k_is)
    (case zz_dxI => k_is)
    (case zz_kxI => k_is)
    (case zz_kkxI => k_is)
    (case zz_TxI => k_is)
    (case zz_axM => k_is)
    (case zz_xxM => k_is)
    (case zz_sxM => k_is)
    (case zz_gxM => k_is)
    (case zz_hxM => k_is)
    (case zz_nxM => k_is)
    (case zz_cxM => k_is)
    (case zz_ixM => k_is)
    (case zz_txM => k_is)
    (case zz_lxM => k_is)
    (case zz_dxM => k_is)
    (case zz_kxM => k_is)
    (case zz_kkxM => k_is)
    (case zz_TxM => k_is)
    (case zz_a_CF => k_is)
    (case zz_CF_pg => k_is)
    (case zz_CF_hd => k_is)
    (case zz_CF_po => k_is)
    (case zz_CF_sa => k_is)
    (case zz_CF_mk => k_is)
    (case zz_CF_kp => k_is)
    (case zz_F_nN => k_is)
    (case zz_F_nW => k_is)
    (case zz_F_nP => k_is)
    (case zz_a_finit => k_is)
    (case zz_f_finit => k_is)
    (case zz_l_finit => k_is)
    (case zz_c_finit => k_is)
    (case zz_k_finit => k_is)
    (case zz_a_key => k_is)
    (case zz_f_key => k_is)
    (case zz_l_key => k_is)
    (case zz_c_key => k_is)
    (case zz_k_key => k_is)
    (case zz_a_CR => k_is)
    (case zz_CR_pg => k_is)
    (case zz_CR_hd => k_is)
    (case zz_CR_po => k_is)
    (case zz_CR_sa => k_is)
    (case zz_CR_mk => k_is)
    (case zz_CR_kp => k_is)
    (case zz_CR_in => k_is)
    (case zz_a_r0 => k_is)
    (case zz_f_r0 => k_is)
    (case zz_l_r0 => k_is)
    (case zz_c_r0 => k_is)
    (case zz_k_r0 => k_is)
    (case zz_a_r1 => k_is)
    (case zz_f_r1 => k_is)
    (case zz_l_r1 => k_is)
    (case zz_c_r1 => k_is)
    (case zz_k_r1 => k_is)
    (case zz_a_r2 => k_is)
    (case zz_f_r2 => k_is)
    (case zz_l_r2 => k_is)
    (case zz_c_r2 => k_is)
    (case zz_k_r2 => k_is)
    (case zz_a_r3 => k_is)
    (case zz_f_r3 => k_is)
    (case zz_l_r3 => k_is)
    (case zz_c_r3 => k_is)
    (case zz_k_r3 => k_is)
    (case zz_a_r4 => k_is)
    (case zz_f_r4 => k_is)
    (case zz_l_r4 => k_is)
    (case zz_c_r4 => k_is)
    (case zz_k_r4 => k_is)
    (case zz_a_C => k_is)
    (case zz_C_pg => k_is)
    (case zz_C_hd => k_is)
    (case zz_C_po => k_is)
    (case zz_C_sa => k_is)
    (case zz_C_mk => k_is)
    (case zz_C_kp => k_is)
    (case zz_C_nS => k_is)
    (case zz_C_nU => k_is)
    (case zz_C_nT => k_is)
    (case zz_a_cinit => k_is)
    (case zz_f_cinit => k_is)
    (case zz_l_cinit => k_is)
    (case zz_c_cinit => k_is)
    (case zz_k_cinit => k_is)
    (case zz_a_add => k_is)
    (case zz_f_add => k_is)
    (case zz_l_add => k_is)
    (case zz_c_add => k_is)
    (case zz_k_add => k_is)
    (case zz_a_chk => k_is)
    (case zz_f_chk => k_is)
    (case zz_l_chk => k_is)
    (case zz_c_chk => k_is)
    (case zz_k_chk => k_is)
    (case zz_a_steps => k_is)
    (case zz_f_steps => k_is)
    (case zz_l_steps => k_is)
    (case zz_c_steps => k_is)
    (case zz_k_steps => k_is)
    (case zz_a_points => k_is)
    (case zz_f_points => k_is)
    (case zz_l_points => k_is)
    (case zz_c_points => k_is)
    (case zz_k_points => k_is)
    (case zz_a_unks => k_is)
    (case zz_f_unks => k_is)
    (case zz_l_unks => k_is)
    (case zz_c_unks => k_is)
    (case zz_k_unks => k_is)
    (case zz_a_copy => k_is)
    (case zz_f_copy => k_is)
    (case zz_l_copy => k_is)
    (case zz_c_copy => k_is)
    (case zz_k_copy => k_is)
    (case zz_a_isint => k_is)
    (case zz_l_isint => k_is)
    (case zz_c_isint => k_is)
    (case zz_k_isint => k_is)
    (case zz_a_isseq => k_is)
    (case zz_l_isseq => k_is)
    (case zz_c_isseq => k_is)
    (case zz_k_isseq => k_is)
    (case zz_a_isname => k_is)
    (case zz_l_isname => k_is)
    (case zz_c_isname => k_is)
    (case zz_k_isname => k_is)
    (case zz_a_formed => k_is)
    (case zz_l_formed => k_is)
    (case zz_c_formed => k_is)
    (case zz_k_formed => k_is)
    (case zz_a_wrong => k_is)
    (case zz_l_wrong => k_is)
    (case zz_c_wrong => k_is)
    (case zz_k_wrong => k_is)
    (case zz_a_member => k_is)
    (case zz_l_member => k_is)
    (case zz_c_member => k_is)
    (case zz_k_member => k_is)
    (case zz_a_elders => k_is)
    (case zz_l_elders => k_is)
    (case zz_c_elders => k_is)
    (case zz_k_elders => k_is)
    (case zz_a_newunk => k_is)
    (case zz_l_newunk => k_is)
    (case zz_c_newunk => k_is)
    (case zz_k_newunk => k_is)
    (case zz_a_dif => k_is)
    (case zz_l_dif => k_is)
    (case zz_c_dif => k_is)
    (case zz_k_dif => k_is)
    (case zz_a_placed => k_is)
    (case zz_l_placed => k_is)
    (case zz_c_placed => k_is)
    (case zz_k_placed => k_is)
    (case zz_a_slid => k_is)
    (case zz_l_slid => k_is)
    (case zz_c_slid => k_is)
    (case zz_k_slid => k_is)
    (case zz_a_parted => k_is)
    (case zz_l_parted => k_is)
    (case zz_c_parted => k_is)
    (case zz_k_parted => k_is)
    (case zz_a_moved => k_is)
    (case zz_l_moved => k_is)
    (case zz_c_moved => k_is)
    (case zz_k_moved => k_is)
    (case zz_a_shifted => k_is)
    (case zz_l_shifted => k_is)
    (case zz_c_shifted => k_is)
    (case zz_k_shifted => k_is)
    (case zz_a_turned => k_is)
    (case zz_l_turned => k_is)
    (case zz_c_turned => k_is)
    (case zz_k_turned => k_is)
    (case zz_a_beyond => k_is)
    (case zz_l_beyond => k_is)
    (case zz_c_beyond => k_is)
    (case zz_k_beyond => k_is)
    (case zz_a_foot => k_is)
    (case zz_l_foot => k_is)
    (case zz_c_foot => k_is)
    (case zz_k_foot => k_is)
    (case zz_a_mirrored => k_is)
    (case zz_l_mirrored => k_is)
    (case zz_c_mirrored => k_is)
    (case zz_k_mirrored => k_is)
    (case zz_a_second => k_is)
    (case zz_l_second => k_is)
    (case zz_c_second => k_is)
    (case zz_k_second => k_is)
    (case zz_a_crossed => k_is)
    (case zz_l_crossed => k_is)
    (case zz_c_crossed => k_is)
    (case zz_k_crossed => k_is)
    (case zz_a_meet => k_is)
    (case zz_l_meet => k_is)
    (case zz_c_meet => k_is)
    (case zz_k_meet => k_is)
    (case zz_a_centre => k_is)
    (case zz_l_centre => k_is)
    (case zz_c_centre => k_is)
    (case zz_k_centre => k_is)
    (case zz_a_made => k_is)
    (case zz_l_made => k_is)
    (case zz_c_made => k_is)
    (case zz_k_made => k_is)
    (case zz_a_number => k_is)
    (case zz_l_number => k_is)
    (case zz_c_number => k_is)
    (case zz_k_number => k_is)
    (case zz_a_scaled => k_is)
    (case zz_l_scaled => k_is)
    (case zz_c_scaled => k_is)
    (case zz_k_scaled => k_is)
    (case zz_a_plus => k_is)
    (case zz_l_plus => k_is)
    (case zz_c_plus => k_is)
    (case zz_k_plus => k_is)
    (case zz_a_minus => k_is)
    (case zz_l_minus => k_is)
    (case zz_c_minus => k_is)
    (case zz_k_minus => k_is)
    (case zz_a_times => k_is)
    (case zz_l_times => k_is)
    (case zz_c_times => k_is)
    (case zz_k_times => k_is)
    (case zz_a_row => k_is)
    (case zz_l_row => k_is)
    (case zz_c_row => k_is)
    (case zz_k_row => k_is)
    (case zz_a_built => k_is)
    (case zz_l_built => k_is)
    (case zz_c_built => k_is)
    (case zz_k_built => k_is)
    (case zz_a_draw => k_is)
    (case zz_l_draw => k_is)
    (case zz_c_draw => k_is)
    (case zz_k_draw => k_is)
    (case zz_a_lint => k_is)
    (case zz_l_lint => k_is)
    (case zz_c_lint => k_is)
    (case zz_k_lint => k_is)
    (case zz_a_same => k_is)
    (case zz_l_same => k_is)
    (case zz_c_same => k_is)
    (case zz_k_same => k_is)
    (case zz_a_open => k_is)
    (case zz_l_open => k_is)
    (case zz_c_open => k_is)
    (case zz_k_open => k_is)
    (case zz_a_names => k_is)
    (case zz_l_names => k_is)
    (case zz_c_names => k_is)
    (case zz_k_names => k_is)
    (case zz_a_lb => k_is)
    (case zz_l_lb => k_is)
    (case zz_c_lb => k_is)
    (case zz_k_lb => k_is)
    (case zz_a_kept => k_is)
    (case zz_l_kept => k_is)
    (case zz_c_kept => k_is)
    (case zz_k_kept => k_is)
    (case zz_a_base => k_is)
    (case zz_l_base => k_is)
    (case zz_c_base => k_is)
    (case zz_k_base => k_is)
    (case zz_a_bad => k_is)
    (case zz_l_bad => k_is)
    (case zz_c_bad => k_is)
    (case zz_k_bad => k_is)
    (case zz_a_good => k_is)
    (case zz_l_good => k_is)
    (case zz_c_good => k_is)
    (case zz_k_good => k_is)
    (case zz_a_ref => k_is)
    (case zz_l_ref => k_is)
    (case zz_c_ref => k_is)
    (case zz_k_ref => k_is)
    (case zz_a_notb => k_is)
    (case zz_l_notb => k_is)
    (case zz_c_notb => k_is)
    (case zz_k_notb => k_is)
    (case zz_a_full => k_is)
    (case zz_l_full => k_is)
    (case zz_c_full => k_is)
    (case zz_k_full => k_is)
    (case zz_a_law => k_is)
    (case zz_l_law => k_is)
    (case zz_c_law => k_is)
    (case zz_k_law => k_is)
    (case zz_aB => k_is)
    (case zz_xB => k_is)
    (case zz_gB => k_is)
    (case zz_rB => k_is)
    (case zz_iB => k_is)
    (case zz_tB => k_is)
    (case zz_eB => k_is)
    (case zz_oG => k_is)
    (case zz_oT => k_is)
    (case zz_sIS => k_is)
    (case zz_sSI => k_is)
    (case zz_sMI => k_is)
    (case zz_aLets => k_is)
    (case zz_aFour => k_is)
    (case zz_aGr => k_is)
    (case zz_aP12 => k_is)
    (case zz_aU8 => k_is)
    (case zz_aRad => k_is)
    (case zz_aF => k_is)
    (case zz_xF => k_is)
    (case zz_eF_ => (repeat (first | exact CN.Ent.nil | refine CN.Ent.cons (by first | exact ⟨_, rfl⟩ | exact rfl) ?_)))
    (case zz_lF_ => (repeat (first | exact True.intro | refine ⟨⟨_, _, rfl, rfl⟩, ?_⟩)))
    (case zz_wF_ => first | rfl | decide | decide +kernel)
    (case zz_aU => k_is)
    (case zz_xU => k_is)
    (case zz_eU_ => (repeat (first | exact CN.Ent.nil | refine CN.Ent.cons (by first | exact ⟨_, rfl⟩ | exact rfl) ?_)))
    (case zz_lU_ => (repeat (first | exact True.intro | refine ⟨⟨_, _, rfl, rfl⟩, ?_⟩)))
    (case zz_wU_ => first | rfl | decide | decide +kernel)
    (case zz_aL => k_is)
    (case zz_xL => k_is)
    (case zz_eL_ => (repeat (first | exact CN.Ent.nil | refine CN.Ent.cons (by first | exact ⟨_, rfl⟩ | exact rfl) ?_)))
    (case zz_lL_ => (repeat (first | exact True.intro | refine ⟨⟨_, _, rfl, rfl⟩, ?_⟩)))
    (case zz_wL_ => first | rfl | decide | decide +kernel)
    (case zz_aM => k_is)
    (case zz_xM => k_is)
    (case zz_eM_ => (repeat (first | exact CN.Ent.nil | refine CN.Ent.cons (by first | exact ⟨_, rfl⟩ | exact rfl) ?_)))
    (case zz_lM_ => (repeat (first | exact True.intro | refine ⟨⟨_, _, rfl, rfl⟩, ?_⟩)))
    (case zz_wM_ => first | rfl | decide | decide +kernel)
    (case zz_z_len => k_is)
    (case zz_z_int => k_is)
    (case zz_z_abs => k_is)
    (case zz_z_str => k_is)
    (case zz_z_all => k_is)
    (case zz_z_tuple => k_is)
    (case zz_z_isinstance => k_is)
    (case zz_z_bool => k_is)
    (case zz_z_list => k_is)
    (case zz_z_range => k_is)
    (case zz_z_enumerate => k_is)
    (case zz_z_sum => k_is)
    (case zz_z_sorted => k_is)
    (case zz_z_divmod => k_is)
    (case zz_z_dict => k_is)

