import PyProof.Rows.All
import Wide.All
import OpenK.AllK
import Wide.FinOn
import HandS.ForMost
import HandS.Exc
import HandS.WordsExc
import HandS.ExcInit
import HandS.FStr
import HandS.ClsMeth
import HandS.ExcCtx
import KE.KExcIs
import HandS.ExcField
import HandS.IsInst
import HandS.Wide
import HandS.Words
import HandS.More
import HandS.Codes
import HandS.Walk
import HandS.Conv
import KE.GoesNew
import KE.GoesMore
import PyProof.ListStr
import HandS.RaiseMore
import HandS.TupAny
import HandS.ExcOwn
import HandS.Defaults
import HandS.HotCalls
import HandS.Ends
import PySem.Challenge.RW_figurehold_k41_texts_of_steps_and_claims
set_option Elab.async false
set_option linter.all false
set_option maxRecDepth 100000
set_option maxHeartbeats 4000000
/-! Errors of own classes under an own base under Exception; each __init__ calls the base's, then keeps one field. -/
namespace PySem
namespace OwnErr
open PySem.W PySem.Calls PyProof.Rows PySem.HandSPX Builtin Builtin.ObjectAttr
def endE : List Value := [.type "Exception", .type "BaseException", .type "object"]
/-- a class's ancestors: own classes, then Exception's -/
def Line (l : List Value) : Prop := ∃ own : List Addr, l = own.map Value.ref ++ endE
theorem Line.cons {l : List Value} {C : Addr} (h : Line l) : Line (.ref C :: l) := by
  obtain ⟨own, e⟩ := h
  exact ⟨C :: own, by rw [e]; rfl⟩
theorem Line.has {l : List Value} (h : Line l) (T : String) : l.contains (.type T) = endE.contains (.type T) := by
  obtain ⟨own, rfl⟩ := h
  induction own with
  | nil => rfl
  | cons c r ih =>
    show List.contains (Value.ref c :: (r.map Value.ref ++ endE)) (Value.type T) = _
    rw [List.contains_cons, ih]
    exact Bool.false_or _
theorem Line.pass {l : List Value} (h : Line l) (me : Value) : refuseLoop me "__setattr__" l = pure () := by
  obtain ⟨own, rfl⟩ := h
  induction own with
  | nil => exact F.store_Exception.passes me
  | cons c r ih =>
    show refuseLoop me "__setattr__" (Value.ref c :: (r.map Value.ref ++ endE)) = _
    rw [refuseLoop_ref, ih]
theorem Line.some {l : List Value} (h : Line l) : l.isEmpty = false := by
  obtain ⟨own, rfl⟩ := h
  cases own <;> rfl
section
variable {prog : Program} {w : World} {A : Around} {E : Value → Shared → Prop} {R : Result → Shared → Prop} {hp : Heap} {g : Array GenState} {d : Drawn} {t : Nat} {os : OsState}
/-- the first field of an error at e that has no dict as yet: the dict at dx is laid -/
theorem first_field {K : W.Frag} {name : Str} {tk : Tok} {v : Value} {e C : Addr} {vs : Array Value} {cd : ClassData} (kin : K.In hp) (he : hp.get? e = some { cls := .ref C, data := .fields vs })
    (hcd : W.clsIn K C = some cd) (hl : Line cd.mro) (hh : cd.hasDict = true) (no : W.findIn K (.ref C) name = some none)
    (go : ∀ h2 tk2 dx, (∀ b o, b ≠ e → hp.get? b = some o → h2.get? b = some o) → hp.objs.size ≤ dx → dx ≠ e → h2.get? e = some { cls := .ref C, dict := some dx, data := .fields vs } →
      h2.Ns1 dx (fun y => if y = name then some v else none) → R (.ok (.ret .none)) ⟨h2, g, d, tk2, os⟩) :
    codeAny (model prog w) A (.call (.builtin "object.__setattr__") ⟨[.ref e, .str name tk, v], []⟩) R ⟨hp, g, d, t, os⟩ := by
  have at_ : W.InstAt hp e { cls := .ref C, data := .fields vs } C none := ⟨he, rfl, rfl, trivial⟩
  have so := F.store_object
  have mro : W.Looks (model prog w) hp (mroOf (.ref C)) cd.mro := (W.looks_clsIn kin hcd).andThen .now
  have old : e ≠ hp.objs.size := Nat.ne_of_lt (Heap.lt_size he)
  have isObj : W.Looks (model prog w) hp (isInstance (.ref e) (.type "object")) true :=
    at_.type.andThen (W.looks_mroIn kin (by unfold W.mroIn; rw [hcd, Option.bind_some, hl.some, hl.has]; decide +kernel))
  have cls : W.Looks (model prog w) hp (classData C) cd := W.looks_clsIn kin hcd
  have taker : W.Looks (model prog w) hp (storeTaker? none) none := .now
  refine codeAny_call_builtin so.slot.plain so.entry (@W.check_slot (model prog w) _ _ ⟨hp, g, d, t, os⟩ "object.__setattr__" "object" "__setattr__" (.ref e) [.str name tk, v] [] _ so.kind so.split isObj (so.args (.ref e) (.str name tk) v) ?_)
  rw [W.osa_eq, refuse_eq]
  refine wpAny_bind (wpAny_bind (at_.type.at (wpAny_bind (mro.at ?_))))
  rw [hl.pass]
  refine wpAny_pure (wpAny_bind (at_.type.at (wpAny_bind ((W.looks_findIn kin no).at (wpAny_bind (taker.at ?_))))))
  obtain ⟨_, _, _, _, _, hd, _, _, _, _, _⟩ := cd
  obtain rfl : hd = true := hh
  show wpAny _ _ (storeInOwnDict (.ref e) (.ref C) (.str name tk) name v false) _ _ _
  unfold storeInOwnDict ownDictForStores
  repeat (first | with_reducible refine HandSPX.store_in_new ?_ ?_ | with_reducible refine wpAny_loadPart_at he ?_ | with_reducible refine cls.at ?_ | wp_step)
  · exact ⟨_, #[], _, (Heap.get?_update_ne _ _ _ _ old.symm).trans (Heap.get?_push_at rfl rfl), rfl, fun z hz => absurd hz (by simp), fun _ => rfl⟩
  · intro h2 tk2 hn hs
    have there : (hp.push { cls := .type "dict", data := .dict #[] }).get? e = some { cls := .ref C, data := .fields vs } := Heap.get?_push_of_some _ he
    exact go h2 tk2 hp.objs.size (fun b o hb ho => (hs.2 b (Nat.ne_of_lt (Heap.lt_size ho))).trans ((Heap.get?_update_ne _ _ _ _ hb).trans (Heap.get?_push_of_some _ ho))) (Nat.le_refl _) old.symm
      ((hs.2 e old).trans (Heap.get?_update_self _ there rfl)) hn
end
end OwnErr
end PySem

namespace L2
open PySem PySem.Spec PyProof.Rows
/-- what the written part says of such a class -/
structure ErrC (K : PySem.W.Frag) (C : Addr) : Prop where
  cls : ∃ nm q N bs bm sn sub ab col dd k0 k1 k2 k3 k5, K.lookup C = some (excClassObj nm q C N bs bm true sn sub ab col dd k0 k1 k2 k3 k5 "Exception.__new__") ∧ PySem.OwnErr.Line bm
  sa : PySem.W.findIn K (.ref C) "__setattr__" = some (some (.builtin "object.__setattr__"))
  exC : PySem.W.subIn K (.ref C) (.type "BaseException") = some true
  tyC : PySem.W.typeIn K (.ref C) = some (.type "type")
  kC : PySem.W.keepIn K (.ref C) = true
/-- .. and of the base whose __init__ is called by name -/
structure BaseC (K : PySem.W.Frag) (B : Addr) : Prop where
  ga : PySem.W.specialIn K (.ref B) "__getattribute__" = some (some (.builtin "type.__getattribute__"))
  rd : PySem.W.readsIn (mc := .type "type") K B = true
  ini : PySem.W.findCls K (.ref B) (.type "type") "__init__" = some (.val (.builtin "Exception.__init__"))
/-- self.f = e, the error's first field -/
def tField (K : PySem.W.Frag) (f : Str) (to te : TE) : TS := fun D σ H => te σ H fun y H1 => to σ H1 fun x H2 => ∃ a C : Addr, x = .ref a ∧ ErrC K C ∧ PySem.W.findIn K (.ref C) f = some none ∧ H2 a = some (exo a C none) ∧
  ∀ dx, H2 dx = none → dx ≠ a → D.nx σ (upd (upd H2 dx (exd dx [(f, y)])) a (exo a C (some dx)))
/-- Base.__init__(self, ..) -/
def tBaseInit (K : PySem.W.Frag) (ta : TA) : TE := fun σ H Q => ta σ H fun vs H1 => ∃ (a C : Addr) (ws : List V), vs = .ref a :: ws ∧ ws.length ≤ 1000 ∧ ErrC K C ∧ H1 a = some (exo a C none) ∧ Q .non H1
/-- C(e, ..), C's own __init__ keeping sp -/
def tErr (C : Addr) (sp : Sp) (ta : TA) : St → Hp → XK → Prop := fun σ H Q => ta σ H fun vs H1 => vs.length ≤ 1000 ∧ ∀ a, H1 a = none → sp (.ref a :: vs) (upd H1 a (exo a C none))
  (fun v H2 => v = .non ∧ ∃ (d : Addr) (fs : List (Str × V)), H2 a = some (exo a C (some d)) ∧ H2 d = some (exd d fs) ∧ H1 d = none ∧ Q (.ref C) (some d) (upd (del H2 a) d (.xd fs))) (fun _ _ _ => False)
section
variable {X : Cx} {pins : List (Addr × Obj)} {σ : St} {H : Hp} {s : Shared} {a C : Addr}
theorem ErrC.data (T : ErrC X.K C) : ∃ cd, PySem.W.clsIn X.K C = some cd ∧ PySem.OwnErr.Line cd.mro ∧ cd.hasDict = true := by
  obtain ⟨nm, q, N, bs, bm, sn, sub, ab, col, dd, k0, k1, k2, k3, k5, hC, hl⟩ := T.cls
  refine ⟨{ name := nm, bases := bs, mro := .ref C :: bm, ns := N, qualname := q, hasDict := true, slotNames := sn, subclasses := sub, abstract := ab, collection := col, hasDel := false }, ?_, hl.cons, rfl⟩
  unfold PySem.W.clsIn
  rw [hC] <;> rfl
theorem field_first {f : Str} {y : V} {u : Value} {Q : Unit → Shared → Prop} {E : Value → Shared → Prop} {A : Around} (T : ErrC X.K C) (I : Inv X pins σ H s) (ea : H a = some (exo a C none)) (no : PySem.W.findIn X.K (.ref C) f = some none) (ry : RelV y u)
    (go : ∀ dx s2, H dx = none → dx ≠ a → Inv X pins σ (upd (upd H dx (exd dx [(f, y)])) a (exo a C (some dx))) s2 → Q () s2) : wpAny (model X.prog X.w) A (setAttr (.ref a) f u) Q E s := by
  obtain ⟨cd, hcd, hl, hd⟩ := T.data
  obtain ⟨t1, ho⟩ := exo_at I.hok ea
  obtain ⟨hp, g, dr, t, os⟩ := s
  refine PySem.W.set_plain I.kIn (ox := { cls := .ref C, dict := none, data := .fields #[.ref t1, .none, .none, .none, .bool false, .none] }) (od := none) ⟨ho, rfl, rfl, trivial⟩ T.sa ?_
  refine PySem.OwnErr.first_field I.kIn ho hcd hl hd no (fun h2 t2 dx keep new ne hx hn => ?_)
  have fresh : H dx = none := I.hok.fresh new
  have neD : ∀ {b : Addr} {o : Obj}, hp.get? b = some o → b ≠ dx := fun q => Nat.ne_of_lt (Nat.lt_of_lt_of_le (Heap.lt_size q) new)
  have neA : ∀ {b : Addr}, H b = none → b ≠ a := fun n z => by
    rw [z, ea] at n
    cases n
  have un : Un X.fs [] H (upd (upd H dx (exd dx [(f, y)])) a (exo a C (some dx))) hp h2 :=
    { keep := fun b o q n _ _ => keep b o (neA n) q
      slot := fun b o q n _ _ => ⟨o.slots, keep b o (neA n) q⟩
      free := fun b o q n _ => (upd_ne (neA n)).trans ((upd_ne (neD q)).trans n)
      there := fun b o q _ => by
        by_cases hb : b = a
        · exact ⟨_, hb.symm ▸ hx⟩
        · exact ⟨o, keep b o hb q⟩
      tups := fun b xs q => (upd_ne (at_ne ea q exo_tup)).trans ((upd_ne (ne_of_none q fresh)).trans q)
      frzs := fun b o v q => (upd_ne (at_ne ea q exo_frz)).trans ((upd_ne (ne_of_none q fresh)).trans q)
      tbls := fun b ps q => ⟨#[], ((upd_ne (at_ne ea q exo_tbl)).trans ((upd_ne (ne_of_none q fresh)).trans q)).trans (by simp)⟩ }
  refine go dx _ fresh ne (I.un (t' := t2) un fun b o q => ?_)
  by_cases hb : b = a
  · subst hb
    rw [upd_same] at q
    cases q
    exact exo_ok hx
  · rw [upd_ne hb] at q
    by_cases hd : b = dx
    · subst hd
      rw [upd_same] at q
      cases q
      exact exd_ok hn (relO_put (fs := []) ry fun _ => True.intro)
    · rw [upd_ne hd] at q
      refine (I.hok b o q).stay (fun c v hc z => keep c v ?_ z) (fun c hc => ?_) (fun c xs hc => ?_)
      · exact hc.elim (fun e => by rw [e]; exact hb) fun e => at_ne ea e exo_own
      · exact (upd_ne (at_ne ea hc exo_own)).trans ((upd_ne (ne_of_none hc fresh)).trans hc)
      · exact (upd_ne (at_ne ea hc exo_tup)).trans ((upd_ne (ne_of_none hc fresh)).trans hc)
theorem base_init {us : List Value} {Q : Value → Shared → Prop} {E : Value → Shared → Prop} {A : Around} (T : ErrC X.K C) (I : Inv X pins σ H s) (ea : H a = some (exo a C none)) (hl : us.length ≤ sizeLine) (go : ∀ s2, Inv X pins σ H s2 → Q .none s2) :
    wpAny (model X.prog X.w) A (call (.builtin "Exception.__init__") (.ref a :: us)) Q E s := by
  obtain ⟨nm, q, N, bs, bm, sn, sub, ab, col, dd, k0, k1, k2, k3, k5, hC, hline⟩ := T.cls
  obtain ⟨t1, ho⟩ := exo_at I.hok ea
  obtain ⟨hp, g, dr, t, os⟩ := s
  refine wpAny_call (PySem.HandSPX.init_base F.excBase_Exception (fun T => hline.has T) (I.kIn _ _ hC) ho hl fun h2 t2 keep hx => ?_)
  have eq : upd H a (exo a C none) = H := funext fun b => by
    by_cases hb : b = a
    · rw [hb, upd_same, ea]
    · rw [upd_ne hb]
  have J := I.write (t' := t) (x := a) (e := a) (o := exo a C none) (by rw [ea]; exact True.intro) (.inl rfl) keep ⟨_, hx⟩ (exo_ok hx)
  exact go _ (eq ▸ J)
end
section
variable {X : Cx} {o e : Expr} {es : List Expr} {to te : TE} {ta : TA} {f : Str} {p p' p1 p2 pos : Pos}
theorem ps_field (ho : PE X o to) (he : PE X e te) (hs : swapsWith e (some (.Attribute o f p')) pos.line X.env = pure false := by rfl) : PS X (.Assign [.Attribute o f p'] e pos) (tField X.K f to te) :=
  ⟨fun pins s σ H D I h => plainObj_wpAny_Assign_Attribute (thn (he.run pins s σ H _ I h) fun _ s1 ⟨y, H1, I1, r1, q1⟩ => thn (ho.run pins s1 σ H1 _ I1 q1) fun u s2 ⟨x, H2, I2, r2, a, C, ex, T, no, ea, q⟩ => by
    subst ex
    obtain rfl : u = Value.ref a := r2
    exact field_first T I2 ea no r1 fun dx s3 n ne J => ⟨σ, _, J, q dx n ne⟩) hs⟩
theorem pe_base {x : Str} {B : Addr} {pl : Sem Bool} (T : BaseC X.K B) (hg : Gl X x) (hm : X.mg x = some (.ref B)) (ha : PA X (e :: es) ta)
    (hc : eval (.Call (.Attribute (.Name x p1) "__init__" p2) (e :: es) [] pos) X.env = (do
      let ov ← eval (.Name x p1) X.env
      standAt p2.atName
      let (f, first) ← holding [ov] (getMethod ov "__init__" pl)
      callWith pos f first (backTo pos (starEach (e :: es) X.env)) (backToKw pos (keywordEach [] X.env))) := by rfl)
    (hdb : (x == ("__debug__" : Str)) = false := by decide) (he : starEach (e :: es) X.env = (false, eval e X.env) :: starEach es X.env := by rfl) (hpl : (backTo pos (starEach es X.env)).any (·.1) = false := by rfl) :
    PE X (.Call (.Attribute (.Name x p1) "__init__" p2) (e :: es) [] pos) (tBaseInit X.K ta) := by
  refine ⟨fun pins s σ H Q I h => ?_⟩
  refine PySem.W.methodCall_KW (ld_glob I hg hm ?_ hdb) hc
  refine PySem.W.method_cls I.kIn T.ga (PySem.W.cls_value I.kIn T.rd T.ini (by decide +kernel) ?_)
  show wpAny _ _ (callWith pos (Value.builtin "Exception.__init__") [] (backTo pos (starEach (e :: es) X.env)) []) _ _ _
  refine PyProof.Rows.callWith_method1 (thn (ha.run pos pins _ σ H _ (I.tok _) h) fun us s1 ⟨vs, H1, I1, r1, a, C, ws, ev, hl, TC, ea, q⟩ => ?_) he hpl
  subst ev
  cases r1 with
  | @cons _ u0 _ ur ra rr =>
    obtain rfl : u0 = Value.ref a := ra
    exact base_init TC I1 ea (by rw [← Paired.length rr, sizeLine_eq]; omega) fun s2 J => ⟨.non, H1, J, rfl, q⟩
theorem pmk_err {CX : CXT} {x : Str} {C fI : Addr} {k : Nat} {fd : FuncData} {ps : List Str} {sp : Sp} (T : ErrC X.K C) (iC : PySem.W.findIn X.K (.ref C) "__init__" = some (some (.ref fI))) (tI : PySem.W.typeIn X.K (.ref fI) = some (.type "function"))
    (G : FnOk X.prog X.w X.K X.mg X.base CX k fI fd ps sp) (hr : Room (k + 1) X.A) (hb : Binds X.K fd ps []) (hx : Passes CX X (fun _ _ _ => False)) (hg : Gl X x) (hm : X.mg x = some (.ref C)) (ha : PA X (e :: es) ta)
    (hdb : (x == ("__debug__" : Str)) = false := by decide) (he : starEach (e :: es) X.env = (false, eval e X.env) :: starEach es X.env := by rfl) (hpl : (backTo pos (starEach es X.env)).any (·.1) = false := by rfl) :
    L2N.PMk X (.Call (.Name x p) (e :: es) [] pos) (tErr C sp ta) := by
  intro pins s σ H Q I h
  obtain ⟨nm, q, N, bs, bm, sn, sub, ab, col, dd, k0, k1, k2, k3, k5, hC, hline⟩ := T.cls
  refine wpAny_Call_Name_kw (ld_glob I hg hm ?_ hdb)
  refine PySem.W.callWith_K (h₀ := X.base) I.ok.mod.kin T.kC (thn (ha.run pos pins s σ H _ I h) fun us s1 ⟨vs, H1, I1, r1, hz, q1⟩ => ⟨I1.kIn, ?_⟩) he hpl
  show wpAny _ _ (call (.ref C) us) _ _ _
  obtain ⟨hp, g, dr, tk, os⟩ := s1
  have big : hp.objs.size ≤ hp.objs.size + 1 := Nat.le_succ _
  have keep : ∀ b o, hp.get? b = some o → ((hp.push (PySem.W.kdv_tup us)).push (PySem.HandSPX.excO C hp.objs.size)).get? b = some o := fun _ _ z => Heap.get?_push_of_some _ (Heap.get?_push_of_some _ z)
  have made : ((hp.push (PySem.W.kdv_tup us)).push (PySem.HandSPX.excO C hp.objs.size)).get? (hp.objs.size + 1) = some (PySem.HandSPX.excO C hp.objs.size) := by heap_get
  have hq := q1 (hp.objs.size + 1) (I1.hok.fresh big)
  have I2 := I1.laid (t' := tk) (a := hp.objs.size + 1) (o := exo (hp.objs.size + 1) C none) (h' := (hp.push (PySem.W.kdv_tup us)).push (PySem.HandSPX.excO C hp.objs.size)) keep big (exo_ok made)
  have r2 : Vals (V.ref (hp.objs.size + 1) :: vs) (Value.ref (hp.objs.size + 1) :: us) := .cons rfl r1
  have len : (Value.ref (hp.objs.size + 1) :: us).length = ps.length := r2.length.symm.trans (G.len _ _ _ _ hq)
  have few : us.length ≤ sizeLine := by
    rw [← Paired.length r1, sizeLine_eq]
    omega
  have bind := hb _ (Value.ref (hp.objs.size + 1) :: us) I2.kIn (by simpa using len)
  refine wpAny_call (PySem.HandSPX.call_own F.excBase_Exception (fun T => hline.has T) (I1.kIn _ _ hC) (PySem.W.looks_findIn I1.kIn iC) (fun me => PySem.W.bind_fn I1.kIn me tI) few
    (codeAny_mono (G.run _ X.stack _ _ ⟨Value.ref (hp.objs.size + 1) :: us, []⟩ (Value.ref (hp.objs.size + 1) :: us) _ _ (fun _ _ _ => False) (hr.make C us []) (I2.env0.make C us []) (by simpa using bind) r2 hq) fun r s2 hs2 => ?_))
  match r, hs2 with
  | .error er, z => exact hx pins σ _ _ er s2 I2 z
  | .ok (.ret u), ⟨v, H2, os2, bare2, un2, hok2, rv, ev, d, fs, ea, ed, hd1, q2⟩ =>
    subst ev
    obtain ⟨h2, g2, d2, t2, os'⟩ := s2
    obtain ⟨t0, G2, J, keepG, gone, there, na⟩ := mk_end0 (d2 := d2) (t2 := t2) I1 big keep un2 hok2 os2 bare2 ea ed hd1
    exact ⟨rv, _, _, _, ⟨G2, g2, d2, t2, os'⟩, _, .ref C, some d, rfl, J, keepG, gone, there, ⟨rfl, rfl, fun vs e => by cases e; rfl⟩, rfl, rfl, na, rfl, bare2, raises_own T.exC T.tyC, q2⟩
  | .ok .next, z => exact z.elim
  | .ok .brk, z => exact z.elim
  | .ok .cont, z => exact z.elim
end
end L2

set_option Elab.async false
set_option linter.all false
set_option maxRecDepth 100000
set_option maxHeartbeats 4000000
/-! try: .. except A as e: .. except B as e: ..: several clauses, one name. -/
namespace L2
open PySem PySem.Spec PyProof.Rows
/-- behind a suite the name's slot is empty -/
def Ends.gone (D : Ends) (i : Nat) : Ends := { nx := fun σ H => D.nx (σ.set i none) H, rt := D.rt, bk := fun σ H => D.bk (σ.set i none) H, ct := fun σ H => D.ct (σ.set i none) H }
/-- what the clauses wish, one behind the other -/
def wEach (K : PySem.W.Frag) (i : Nat) (Wout : WX) (D : Ends) : List (Value × (Addr → Value → Option Addr → TS)) → WX
  | [] => Wout
  | (c, ts) :: more => fun cls d σ H => ∃ b, PySem.W.exmOne K cls c = some b ∧ (b = true → ∀ a, H a = none → ts a cls d (D.gone i) (σ.set i (some (.ref a))) H) ∧ (b = false → wEach K i Wout D more cls d σ H)
inductive Clauses (X : Cx) (n : Str) : List ExceptHandler → List (Value × (Addr → Value → Option Addr → TS)) → Prop
  | nil : Clauses X n [] []
  | cons {x : Str} {c : Value} {ts : Addr → Value → Option Addr → TS} {first : Stmt} {suite : List Stmt} {np hp : Pos} {more : List ExceptHandler} {l : List (Value × (Addr → Value → Option Addr → TS))} (hc : Names X x c)
      (hs : ∀ (a : Addr) (oe : Obj) (cls : Value) (d : Option Addr) (pn : List (Addr × Obj)), L2N.Zn cls d oe → (∃ vs, oe.data = .fields vs) → PSs (X.suite a ((a, oe) :: pn)) (first :: suite) (ts a cls d)) (r : Clauses X n more l) :
      Clauses X n (.ExceptHandler (some (.Name x np)) (some n) (first :: suite) hp :: more) ((c, ts) :: l)
section
variable {X : Cx} {n : Str} {i : Nat} {body : List Stmt} {h₁ : ExceptHandler} {hs₁ : List ExceptHandler} {l : List (Value × (Addr → Value → Option Addr → TS))} {pos : Pos} {tb : WX → TS} {Wout : WX}
theorem SP.untry {pins : List (Addr × Obj)} {xe : Value → Shared → Prop} {D : Ends} {f : Flow} {s : Shared} (ok : X.Ok) (h : SP (X.tr (X.pn ++ pins) xe) [] D f s) : SP X pins D f s :=
  match f, h with
  | .next, ⟨σ, H, J, q⟩ => ⟨σ, H, J.ofTry ok, q⟩
  | .brk, ⟨σ, H, J, q⟩ => ⟨σ, H, J.ofTry ok, q⟩
  | .cont, ⟨σ, H, J, q⟩ => ⟨σ, H, J.ofTry ok, q⟩
  | .ret _, ⟨v, σ, H, J, r, q⟩ => ⟨v, σ, H, J.ofTry ok, r, q⟩
theorem ps_try_each (st : X.stack = X.env :: X.outer) (fr : X.env.frame = some X.env.locals) (nd : X.N.Nodup) (hi : X.N[i]? = some n) (lo : X.env.kindOf n = some .local) (tk : L2N.Takes X Wout)
    (hb : ∀ (W : WX) (pn : List (Addr × Obj)) (xe : Value → Shared → Prop), L2N.Takes (X.tr pn xe) W → PassesOwn (model X.prog X.w) X.A X.env xe → PSs (X.tr pn xe) body (tb W))
    (hh : Clauses X n (h₁ :: hs₁) l) : PS X (.Try body (h₁ :: hs₁) [] [] pos) (fun D σ H => tb (wEach X.K i Wout D l) D σ H) := by
  refine ⟨fun pins s σ H D I h => ?_⟩
  have ok := I.ok
  have frs_ : X.A.frames = some (X.env :: X.outer) := by rw [ok.frames, st]
  refine wpAny_Try_except ?_
  refine wpAny_mono ((hb (wEach X.K i Wout D l) (X.pn ++ pins) (fun e sa => wpAny (model X.prog X.w) X.A (noteFrame e X.env) (fun _ sb => wpAny (model X.prog X.w) X.A (setFlight e none) (fun _ sc =>
    wpAny (model X.prog X.w) X.A (handleBy e X.env (h₁ :: hs₁)) (SP X pins D) X.xe sc) X.xe sb) X.xe sa) (fun u s2 hu => ?_) PassesOwn.looking).run [] s σ H D (I.toTry _) h) (fun f s2 hf => ?_) (fun _ _ z => z)
  · obtain ⟨a, B, sI, pins2, σ2, H2, cls, d, rfl, J0, nb, up, sky, na, os, ag, wish⟩ := hu
    have J : Inv X pins σ2 H2 sI := J0.ofTry ok
    show wpAny (model X.prog X.w) X.A (noteFrame (.ref a) X.env) _ _ _
    refine L2N.Sky.land L2N.Zn.steady frs_ fr (by rw [← st]; exact sky) fun h3 fl3 up3 => ?_
    have J3 : Inv X pins σ2 H2 { s2 with heap := h3 } := J.landed nb fl3.1 (up.trans up3) os ag
    obtain ⟨oe3, vs3, he3, hz3, hd3⟩ := fl3.there
    -- the error is no frame
    have out : a ∉ frs (X.env :: X.outer) := fun hm => by
      obtain ⟨_, o, ho, hnf⟩ := fl3.2.2.1.mem hm
      rw [he3] at ho
      cases ho
      exact hnf _ hd3
    have nL : a ≠ X.env.locals := fun z => out (List.mem_filterMap.mpr ⟨X.env, List.mem_cons_self, by rw [fr, z]⟩)
    have nF : a ∉ X.fs := fun hm => by
      obtain ⟨ev, he, q⟩ := List.mem_filterMap.mp hm
      exact out (List.mem_filterMap.mpr ⟨ev, List.mem_cons_of_mem _ he, q⟩)
    have S3 := J3.suite he3 hd3 na nL nF
    have go : ∀ {hs2 : List ExceptHandler} {l2 : List (Value × (Addr → Value → Option Addr → TS))}, Clauses X n hs2 l2 → wEach X.K i Wout D l2 cls d σ2 H2 →
        wpAny (model X.prog X.w) X.A (handleBy (.ref a) X.env hs2) (SP X pins D) X.xe { s2 with heap := h3 } := by
      intro hs2 l2 hk
      induction hk with
      | nil =>
        intro wish2
        refine wpAny_handleBy_nil ?_
        obtain ⟨_, _, _, oe, vs, T, oT, ts2, he, hz, hd, h1, _⟩ := id fl3
        unfold PySem.passOn
        refine wpAny_bind (wpAny_field he hd h1 ?_)
        rw [if_neg (show ¬ ((Value.ref T == Value.none) = true) from by simp)]
        have last : wpAny (model X.prog X.w) X.A (setFlight (.ref a) X.env.frame) (fun _ s5 => wpAny (model X.prog X.w) X.A (throw (.ref a) : Sem Flow) (SP X pins D) X.xe s5) X.xe { s2 with heap := h3 } := by
          rw [fr]
          exact HandSPX.setFlight_upZ fl3 fun h4 hh4 up4 => wpAny_throw (tk _ _ ⟨a, B, sI, pins, σ2, H2, cls, d, rfl, J, nb, (up.trans up3).trans up4, .inr (.inr (by rw [st]; exact hh4)), na, os, ag, wish2⟩)
        first
          | exact wpAny_bind (wpAny_pure (wpAny_bind last))
          | exact wpAny_bind last
      | @cons x c ts first suite np hp more l2 hc hsu r ih =>
        intro wish2
        obtain ⟨b, hb1, yes, no⟩ := wish2
        refine wpAny_handleBy_cons (codeAny_handlers_test ?_) (by intro q; cases q)
        have ty : PySem.W.Looks (model X.prog X.w) h3 (typeOf (.ref a)) cls := fun A Q E s k q => wpAny_typeOf_ref (k _ _ he3) (by rw [hz3.1]; exact q)
        have LM := PySem.W.exm_one (M := model X.prog X.w) J3.kIn ty hb1
        have test : ∀ {Q : Value → Shared → Prop} {E : Value → Shared → Prop}, Q c { s2 with heap := h3 } → wpAny (model X.prog X.w) (X.A.mark (some (.ref a))) (eval (.Name x np) X.env) Q E { s2 with heap := h3 } := fun {Q E} q =>
          match hc with
          | ⟨hg, hdbg, .inl hm⟩ => ld_glob (X := X.suite a ((a, oe3) :: (X.pn ++ pins))) S3 hg hm q hdbg
          | ⟨hg, hdbg, .inr ⟨hm, hv, hnn⟩⟩ => ld_blt (X := X.suite a ((a, oe3) :: (X.pn ++ pins))) S3 hg hm hv q hnn hdbg
        refine test (LM.here ?_)
        cases b with
        | false =>
          show wpAny _ X.A (handleBy (.ref a) X.env more) _ _ _
          exact ih (no rfl)
        | true =>
          refine codeAny_handlers_suite_as ?_
          refine HandSPX.lands_againZ fl3 fun h4 fl4 up4 => ?_
          have J4 : Inv X pins σ2 H2 { s2 with heap := h4 } := J.landed nb fl4.1 ((up.trans up3).trans up4) os ag
          obtain ⟨oe4, vs4, he4, hz4, hd4⟩ := fl4.there
          refine store_ok (X := X.suite a ((a, oe4) :: (X.pn ++ pins))) (v := .ref a) (J4.suite he4 hd4 na nL nF) nd hi (.inl lo) rfl (fun s5 S5 => ?_) (.inr lo)
          refine wpAny_mono ((hsu a oe4 cls d (X.pn ++ pins) hz4 ⟨_, hd4⟩).run [] s5 _ H2 _ S5 (yes rfl a na)) (fun f s6 hf => ?_) (fun _ _ z => z.elim)
          have fin : ∀ {σ6 : St} {H6 : Hp} {Q : Shared → Prop}, Inv (X.suite a ((a, oe4) :: (X.pn ++ pins))) [] σ6 H6 s6 → (∀ s7, Inv X pins (σ6.set i none) H6 s7 → Q s7) →
              wpAny (model X.prog X.w) X.A (do bindName X.env n .none; unbindBehindTheSuite X.env n hp) (fun _ s7 => Q s7) X.xe s6 := fun S6 hq => gone_ok (S6.unsuite ok) nd hi lo hq
          match f, hf with
          | .next, ⟨σ6, H6, S6, q6⟩ => exact fin S6 fun s7 J7 => ⟨_, _, J7, q6⟩
          | .brk, ⟨σ6, H6, S6, q6⟩ => exact fin S6 fun s7 J7 => ⟨_, _, J7, q6⟩
          | .cont, ⟨σ6, H6, S6, q6⟩ => exact fin S6 fun s7 J7 => ⟨_, _, J7, q6⟩
          | .ret u, ⟨v6, σ6, H6, S6, r6, q6⟩ => exact fin S6 fun s7 J7 => ⟨_, _, _, J7, r6, q6⟩
    exact go hh wish
  · have z := SP.untry ok hf
    cases f with
    | next => exact wpAny_execs_nil z
    | brk => exact z
    | cont => exact z
    | ret u => exact z
end
/-- what a class says, so that isinstance asks its instances rightly -/
structure AskC (K : PySem.W.Frag) (C : Addr) : Prop where
  cl : (PySem.W.clsIn K C).isSome = true
  ga : PySem.W.findIn K (.ref C) "__getattribute__" = some (some (.builtin "BaseException.__getattribute__"))
  gg : PySem.W.findIn K (.ref C) "__getattr__" = some none
  exC : PySem.W.subIn K (.ref C) (.type "BaseException") = some true
  cls : PySem.W.findIn K (.ref C) "__class__" = some (some (.builtin "object.__class__"))
  get : PySem.W.specialIn K (.builtin "object.__class__") "__get__" = some (some (.builtin "getset_descriptor.__get__"))
  tak : PySem.W.takesIn K (.builtin "object.__class__") = some true
  obj : PySem.W.mroIn K C (.type "object") = some true
/-- isinstance(e, c), e the error at a of the class cls -/
def rErrIs (K : PySem.W.Frag) (cls : Value) (a : Addr) (d : Option Addr) : List V → Hp → VK → Prop := fun xs H Q => ∃ (C : Addr) (c : V) (cv : Value) (b : Bool), cls = .ref C ∧ AskC K C ∧ xs = [.ref a, c] ∧ ClsV c cv ∧ (∀ dd, d = some dd → ∃ fs, H dd = some (.xd fs)) ∧ PySem.W.kitOne K cls cv = some b ∧ Q (.bl b) H
/-- isinstance(e, (c, ..)) -/
def rErrIsT (K : PySem.W.Frag) (cls : Value) (a : Addr) (d : Option Addr) : List V → Hp → VK → Prop := fun xs H Q => ∃ (C tp : Addr) (cs : List V) (us : List Value) (b : Bool), cls = .ref C ∧ AskC K C ∧ xs = [.ref a, .ref tp] ∧ H tp = some (.tup cs) ∧ Paired ClsV cs us ∧ (∀ dd, d = some dd → ∃ fs, H dd = some (.xd fs)) ∧ PySem.W.kitAny K cls us = some b ∧ Q (.bl b) H
section
variable {X : Cx} {a C : Addr} {cls : Value} {oe : Obj} {d : Option Addr} {pn : List (Addr × Obj)}
theorem err_inst {pins : List (Addr × Obj)} {σ : St} {H : Hp} {s : Shared} (I : Inv (X.suite a ((a, oe) :: pn)) pins σ H s) (hz : Zc (.ref C) d oe) (hf : ∃ vs, oe.data = .fields vs) (hd : ∀ dd, d = some dd → ∃ fs, H dd = some (.xd fs)) : ∃ od, PySem.W.InstAt s.heap a oe C od := by
  obtain ⟨hget, _⟩ := I.pin (a, oe) (List.mem_append_left _ List.mem_cons_self)
  obtain ⟨vs, hv⟩ := hf
  have nc : PySem.W.notCls oe = true := by unfold PySem.W.notCls; rw [hv] <;> rfl
  cases d with
  | none => exact ⟨none, hget, hz.1, nc, by rw [hz.2]; trivial⟩
  | some dd =>
    obtain ⟨fs, e⟩ := hd dd rfl
    obtain ⟨mA, ⟨o, _, _, ho, _⟩, _⟩ := (show ObjOk X.prog X.w H s.heap dd (.xd fs) from I.hok dd _ e)
    exact ⟨some o, hget, hz.1, nc, by rw [hz.2]; exact ho⟩
theorem call_errIs (hz : Zc cls d oe) (hf : ∃ vs, oe.data = .fields vs) : CallR (X.suite a ((a, oe) :: pn)) (.builtin "isinstance") (rErrIs X.K cls a d) := by
  intro pins s σ H xs us Q I r h
  obtain ⟨C, c, cv, b, rfl, T, rfl, hc, hd, e, q⟩ := h
  obtain ⟨u1, u2, rfl, r1, r2⟩ := vals2 r
  cases (show u1 = Value.ref a from r1)
  cases hc.eq r2
  obtain ⟨od, J⟩ := err_inst I hz hf hd
  exact PySem.W.kia_one (PySem.W.kitx_exc T.cl T.ga T.gg T.exC T.cls T.get T.tak T.obj) I.kIn J e (fun z => nomatch z) fun tk => ⟨.bl b, H, I.tok tk, rfl, q⟩
theorem call_errIsT (hz : Zc cls d oe) (hf : ∃ vs, oe.data = .fields vs) : CallR (X.suite a ((a, oe) :: pn)) (.builtin "isinstance") (rErrIsT X.K cls a d) := by
  intro pins s σ H xs us Q I r h
  obtain ⟨C, tp, cs, ws, b, rfl, T, rfl, hT, k, hd, e, q⟩ := h
  obtain ⟨u1, u2, rfl, r1, r2⟩ := vals2 r
  cases (show u1 = Value.ref a from r1)
  cases (show u2 = Value.ref tp from r2)
  obtain ⟨od, J⟩ := err_inst I hz hf hd
  obtain ⟨_, its, rv, o, h1, h2, m, h3⟩ := (show ObjOk X.prog X.w H s.heap tp (.tup cs) from I.hok tp _ hT)
  cases ClsV.all k rv
  obtain ⟨oc, od2, dt, sl⟩ := o
  simp only at h2 h3
  subst h2 h3
  exact PySem.W.kia_tup (PySem.W.kitx_exc T.cl T.ga T.gg T.exC T.cls T.get T.tak T.obj) I.kIn J h1 e (fun z => nomatch z) fun tk => ⟨.bl b, H, I.tok tk, rfl, q⟩
end
end L2

set_option Elab.async false
set_option linter.all false
set_option maxRecDepth 100000
set_option maxHeartbeats 4000000
set_option autoImplicit false
/-! Texts of steps and claims: what is told of words, names and integers; no program here. -/
namespace K4
open PySem L2 TL
def lets : List Nat := tl ("abcdefghijklmnopqrstuvwxyz" : Str)
def figs : List Nat := tl ("0123456789" : Str)
theorem figs_iff (c : Nat) : c ∈ figs ↔ 48 ≤ c ∧ c ≤ 57 := by
  have e : figs = [48, 49, 50, 51, 52, 53, 54, 55, 56, 57] := by decide +kernel
  rw [e]
  simp only [List.mem_cons, List.not_mem_nil, or_false]
  omega
theorem lets_iff (c : Nat) : c ∈ lets ↔ 97 ≤ c ∧ c ≤ 122 := by
  have e : lets = [97, 98, 99, 100, 101, 102, 103, 104, 105, 106, 107, 108, 109, 110, 111, 112, 113, 114, 115, 116, 117, 118, 119, 120, 121, 122] := by decide +kernel
  rw [e]
  simp only [List.mem_cons, List.not_mem_nil, or_false]
  omega
theorem len_tl (x : Str) : (tl x).length = x.length := Array.length_toList
/-- a word of one to four small letters -/
def isNm (x : Str) : Bool := (decide (1 ≤ (tl x).length) && decide ((tl x).length ≤ 4)) && (tl x).all fun c => decide (c ∈ lets)
/-- one to nine figures, no nought ahead -/
def isFg (l : List Nat) : Bool := ((decide (1 ≤ l.length) && decide (l.length ≤ 9)) && l.all fun c => decide (c ∈ figs)) && decide (l.head? ≠ some 48)
def body (l : List Nat) : List Nat := if l.head? = some 45 then l.drop 1 else l
def okI (x : Str) : Bool := decide (tl x = [48]) || isFg (body (tl x))
def valI (x : Str) : Int := (PySem.intText? x).getD 0
theorem isFg_all {l : List Nat} (h : isFg l = true) : NumText.AllDigits l ∧ l ≠ [] ∧ l.length ≤ 9 ∧ l.head? ≠ some 48 := by
  unfold isFg at h
  simp only [Bool.and_eq_true, decide_eq_true_eq, List.all_eq_true] at h
  obtain ⟨⟨⟨h1, h2⟩, h3⟩, h4⟩ := h
  exact ⟨fun c hc => (figs_iff c).mp (h3 c hc), fun z => by rw [z] at h1; simp at h1, h2, h4⟩
theorem num_reads_pos {x : Str} (h : NumText.AllDigits (tl x)) (h1 : tl x ≠ []) (h2 : (tl x).length ≤ 9) : ∃ n, PySem.intText? x = some n := ⟨_, intText_digits h h1 (by rw [← len_tl]; omega)⟩
theorem okI_int {x : Str} (h : okI x = true) : PySem.intText? x = some (valI x) ∧ x.length ≤ 10 := by
  have fin : (∃ n, PySem.intText? x = some n) → PySem.intText? x = some (valI x) := fun ⟨n, e⟩ => by unfold valI; rw [e]; rfl
  unfold okI at h
  rw [Bool.or_eq_true] at h
  rcases h with h | h
  · have e := of_decide_eq_true h
    refine ⟨fin (num_reads_pos ?_ (by rw [e]; simp) (by rw [e]; simp)), by rw [← len_tl, e]; simp⟩
    rw [e]
    intro c hc
    rw [List.mem_singleton.mp hc]
    omega
  · obtain ⟨g1, g2, g3, g4⟩ := isFg_all h
    unfold body at g1 g2 g3
    split at g1
    · rename_i q
      rw [if_pos q] at g2 g3
      have e : tl x = 45 :: (tl x).drop 1 := by
        cases ex : tl x with
        | nil => rw [ex] at q; cases q
        | cons a r =>
          rw [ex] at q
          cases q
          rfl
      have lx : x.length = (tl x).length := (len_tl x).symm
      have ll : (tl x).length = ((tl x).drop 1).length + 1 := by
        have := congrArg List.length e
        rw [List.length_cons] at this
        exact this
      exact ⟨fin ⟨_, intText_neg e g1 g2 (by omega)⟩, by omega⟩
    · rename_i q
      rw [if_neg q] at g2 g3
      exact ⟨fin (num_reads_pos g1 g2 g3), by rw [← len_tl]; omega⟩
/-! ### numbers and their texts -/
theorem tl_negnum (n : Nat) : tl (Str.ofString (toString (-((n + 1 : Nat) : Int)))) = 45 :: numL (n + 1) := by
  rw [tl_ofString, show (-((n + 1 : Nat) : Int)) = Int.negSucc n from rfl]
  rw [show toString (Int.negSucc n) = "-" ++ toString (n + 1) from rfl, String.toList_append]
  rw [List.map_append]
  show [45] ++ _ = _
  have := tl_num (n + 1)
  rw [tl_ofString] at this
  exact congrArg ([45] ++ ·) this
theorem numL_head {n : Nat} (h : 0 < n) : (numL n).head? ≠ some 48 := by
  induction n using Nat.strongRecOn with
  | _ n ih =>
    by_cases h9 : n < 10
    · rw [numL_lt h9]
      simp
      omega
    · rw [numL_step (by omega)]
      have := ih (n / 10) (by omega) (by omega)
      cases e : numL (n / 10) with
      | nil => exact absurd e (numL_ne _)
      | cons a r =>
        rw [e] at this
        exact this
theorem isFg_num {n : Nat} (h : 0 < n) (h9 : n < 10 ^ 9) : isFg (numL n) = true := by
  unfold isFg
  simp only [Bool.and_eq_true, decide_eq_true_eq, List.all_eq_true]
  refine ⟨⟨⟨?_, numL_len (by decide) h9⟩, fun c hc => (figs_iff c).mpr (numL_digits n c hc)⟩, numL_head h⟩
  cases e : numL n with
  | nil => exact absurd e (numL_ne n)
  | cons a r => simp
theorem okI_num {i : Int} (h : -(10 ^ 9) < i) (h9 : i < 10 ^ 9) : okI (Str.ofString (toString i)) = true ∧ valI (Str.ofString (toString i)) = i ∧ (tl (Str.ofString (toString i))).length ≤ 10 ∧ 32 ∉ tl (Str.ofString (toString i)) := by
  by_cases z : 0 ≤ i
  · obtain ⟨n, rfl⟩ := Int.eq_ofNat_of_zero_le z
    have h10 : n < 10 ^ 9 := by omega
    have hl : (numL n).length ≤ 9 := numL_len (by decide) h10
    refine ⟨?_, ?_, by rw [tl_num]; omega, by rw [tl_num]; exact numL_free (by omega)⟩
    · unfold okI
      rw [tl_num, Bool.or_eq_true]
      by_cases n0 : n = 0
      · subst n0
        exact .inl (by decide)
      · refine .inr ?_
        unfold body
        rw [if_neg, isFg_num (by omega) h10]
        intro q
        have : 45 ∈ numL n := by
          cases e : numL n with
          | nil => rw [e] at q; cases q
          | cons a r => rw [e] at q; cases q; exact List.mem_cons_self
        exact numL_free (by omega) this
    · unfold valI
      have e := intText_digits (x := Str.ofString (toString (n : Int))) (show NumText.AllDigits (tl _) by rw [tl_num]; exact numL_digits n) (show tl _ ≠ [] by rw [tl_num]; exact numL_ne n) (by rw [← len_tl, tl_num]; omega)
      rw [e]
      show ((NumText.digitsVal (tl _) : Nat) : Int) = _
      rw [tl_num, numL_val]
  · obtain ⟨n, rfl⟩ : ∃ n : Nat, i = -((n + 1 : Nat) : Int) := ⟨(-i).toNat - 1, by omega⟩
    have h10 : n + 1 < 10 ^ 9 := by omega
    have hl : (numL (n + 1)).length ≤ 9 := numL_len (by decide) h10
    refine ⟨?_, ?_, by rw [tl_negnum, List.length_cons]; omega, ?_⟩
    · unfold okI
      rw [tl_negnum, Bool.or_eq_true]
      refine .inr ?_
      rw [show body (45 :: numL (n + 1)) = numL (n + 1) from if_pos rfl]
      exact isFg_num (by omega) h10
    · unfold valI
      rw [intText_neg (tl_negnum n) (numL_digits _) (numL_ne _) (by rw [← len_tl, tl_negnum, List.length_cons]; omega), numL_val]
      rfl
    · rw [tl_negnum]
      intro q
      rcases List.mem_cons.mp q with q | q
      · cases q
      · exact numL_free (by omega) q
theorem isNm_free {x : Str} (h : isNm x = true) : 32 ∉ tl x ∧ (tl x).length ≤ 4 ∧ 1 ≤ (tl x).length := by
  unfold isNm at h
  simp only [Bool.and_eq_true, decide_eq_true_eq, List.all_eq_true] at h
  obtain ⟨⟨h1, h2⟩, h3⟩ := h
  refine ⟨fun q => ?_, h2, h1⟩
  have := (lets_iff 32).mp (h3 32 q)
  omega
/-! ### the forms -/
abbrev Sh := Str × Nat × Nat
def shC : List Sh := [("same", 2, 0), ("on_line", 3, 0), ("parallel", 4, 0), ("perpendicular", 4, 0), ("equal_length", 4, 0), ("equal_area", 6, 0), ("on_circle", 4, 0), ("one_meet", 6, 0)]
def shS : List Sh := [("free", 1, 0), ("slide", 3, 0), ("part", 3, 2), ("shift", 4, 0), ("turn", 4, 0), ("over", 3, 0), ("mirror", 4, 0), ("foot", 4, 0), ("meet", 5, 0), ("second", 4, 0), ("centre", 4, 0)]
def shL (b : Bool) : List Sh := if b = true then shS else shC
def shapeIn (l : List Sh) (z : Str) : Option (Nat × Nat) := (l.find? fun e => decide (e.1 = z)).map (·.2)
def shapeOf (b : Bool) (z : Str) : Option (Nat × Nat) := shapeIn (shL b) z
theorem shapeIn_mem {l : List Sh} {z : Str} {r : Nat × Nat} (h : shapeIn l z = some r) : (z, r) ∈ l := by
  unfold shapeIn at h
  cases e : l.find? fun e => decide (e.1 = z) with
  | none => rw [e] at h; cases h
  | some p =>
    rw [e] at h
    have h1 := List.find?_some e
    have h2 := List.mem_of_find?_eq_some e
    have e3 : p.1 = z := of_decide_eq_true h1
    cases h
    rw [← e3]
    exact h2
theorem shape_facts : ∀ b : Bool, ∀ e ∈ shL b, shapeOf b e.1 = some e.2 ∧ shapeOf (!b) e.1 = none ∧ 32 ∉ tl e.1 ∧ (tl e.1).length ≤ 13 ∧ 1 ≤ e.2.1 ∧ e.2.1 ≤ 6 ∧ e.2.2 ≤ 2 := by
  decide +kernel
theorem shape_lim {b : Bool} {z : Str} {n k : Nat} (h : shapeOf b z = some (n, k)) : 1 ≤ n ∧ n ≤ 6 ∧ k ≤ 2 := by
  have := shape_facts b _ (shapeIn_mem h)
  exact ⟨this.2.2.2.2.1, this.2.2.2.2.2⟩
/-- what words tell by a form -/
def formed (sh : Str → Option (Nat × Nat)) : List Str → Option (List V)
  | [] => none
  | z :: r => match sh z with
    | none => none
    | some (n, k) => if r.length = n + k ∧ ((r.take n).all isNm = true ∧ (r.drop n).all okI = true) then some (.str z :: ((r.take n).map V.str ++ (r.drop n).map fun x => V.int (valI x))) else none
theorem formed_some {sh : Str → Option (Nat × Nat)} {z : Str} {n k : Nat} (h : sh z = some (n, k)) (r : List Str) : formed sh (z :: r) = if r.length = n + k ∧ ((r.take n).all isNm = true ∧ (r.drop n).all okI = true) then some (.str z :: ((r.take n).map V.str ++ (r.drop n).map fun x => V.int (valI x))) else none := by
  show (match sh z with
    | none => none
    | some (n, k) => _) = _
  rw [h]
theorem formed_none {sh : Str → Option (Nat × Nat)} {z : Str} (h : sh z = none) (r : List Str) : formed sh (z :: r) = none := by
  show (match sh z with
    | none => none
    | some (n, k) => _) = _
  rw [h]
def due (b : Bool) (x : Str) : Option (List V) := formed (shapeOf b) (Txt.split x " ")
theorem split_ne (x : Str) : ∃ z r, Txt.split x " " = z :: r := by
  unfold Txt.split
  split
  · exact ⟨_, _, rfl⟩
  · split
    · exact ⟨_, _, rfl⟩
    · rw [StrLaws.partsBetween_eq]
      exact StrLaws.partsFrom_ne _ _ _ _
theorem joinL_len (s : List Nat) : ∀ ps : List (List Nat), ps ≠ [] → (joinL s ps).length = (ps.map List.length).sum + (ps.length - 1) * s.length
  | [], h => absurd rfl h
  | [p], _ => by simp [joinL]
  | p :: q :: r, _ => by
    have ih := joinL_len s (q :: r) (by simp)
    show (p ++ (s ++ joinL s (q :: r))).length = _
    rw [List.length_append, List.length_append, ih]
    simp only [List.map_cons, List.sum_cons, List.length_cons]
    have e : (r.length + 1 + 1 - 1) * s.length = s.length + (r.length + 1 - 1) * s.length := by
      rw [show r.length + 1 + 1 - 1 = (r.length + 1 - 1) + 1 by omega, Nat.succ_mul]
      omega
    omega
theorem sum_le_one {x : Nat} : ∀ {l : List Nat}, x ∈ l → x ≤ l.sum
  | [], h => by cases h
  | a :: l, h => by
    rcases List.mem_cons.mp h with e | h
    · rw [e, List.sum_cons]; omega
    · have := sum_le_one h
      rw [List.sum_cons]; omega
/-- the words of a text: not more than its signs and one; all together not longer -/
theorem split_len (x : Str) : (Txt.split x " ").length ≤ x.length + 1 ∧ ((Txt.split x " ").map (·.length)).sum ≤ x.length ∧ ∀ z ∈ Txt.split x " ", z.length ≤ x.length := by
  have e : tl (Str.join " " (Txt.split x " ")) = tl x := congrArg tl (StrLaws.join_split x " ")
  rw [tl_join] at e
  have l := congrArg List.length e
  obtain ⟨z, r, ez⟩ := split_ne x
  rw [joinL_len _ _ (by rw [ez]; simp), len_tl, List.map_map, List.length_map] at l
  have s1 : ((" " : Str)).length = 1 := by decide +kernel
  rw [s1] at l
  have e2 : (Txt.split x " ").map (List.length ∘ tl) = (Txt.split x " ").map (·.length) := List.map_congr_left fun y _ => len_tl y
  rw [e2] at l
  have n0 : (Txt.split x " ").length = r.length + 1 := by rw [ez, List.length_cons]
  have lx := len_tl x
  refine ⟨by omega, by omega, fun y hy => ?_⟩
  have := sum_le_one (List.mem_map.mpr ⟨y, hy, rfl⟩ : y.length ∈ (Txt.split x " ").map (·.length))
  omega
/-- the text of words without blanks, split -/
theorem split_of {ws : List Str} (h : ws ≠ []) (f : ∀ z ∈ ws, 32 ∉ tl z) : Txt.split (Txt.join " " ws) " " = ws :=
  split_join (y := " ") (s := 32) (S := []) (by decide +kernel) (by decide +kernel) h f
/-- a step, a claim: the word, names, integers -/
structure Thing (b : Bool) (z : Str) (ns : List Str) (is : List Int) : Prop where
  sh : shapeOf b z = some (ns.length, is.length)
  nm : ∀ x ∈ ns, isNm x = true
  im : ∀ i ∈ is, -(10 ^ 9) < i ∧ i < 10 ^ 9
def words (z : Str) (ns : List Str) (is : List Int) : List Str := z :: (ns ++ is.map fun i => Str.ofString (toString i))
def vals (z : Str) (ns : List Str) (is : List Int) : List V := .str z :: (ns.map V.str ++ is.map V.int)
theorem Thing.free {b : Bool} {z : Str} {ns : List Str} {is : List Int} (T : Thing b z ns is) : ∀ y ∈ words z ns is, 32 ∉ tl y ∧ (tl y).length ≤ 13 := by
  intro y hy
  have f := shape_facts b _ (shapeIn_mem T.sh)
  rcases List.mem_cons.mp hy with e | hy
  · rw [e]; exact ⟨f.2.2.1, f.2.2.2.1⟩
  · rcases List.mem_append.mp hy with hy | hy
    · have := isNm_free (T.nm y hy)
      exact ⟨this.1, by omega⟩
    · obtain ⟨i, hi, rfl⟩ := List.mem_map.mp hy
      have := okI_num (T.im i hi).1 (T.im i hi).2
      exact ⟨this.2.2.2, by have := this.2.2.1; omega⟩
theorem Thing.split {b : Bool} {z : Str} {ns : List Str} {is : List Int} (T : Thing b z ns is) : Txt.split (Txt.join " " (words z ns is)) " " = words z ns is :=
  split_of (by unfold words; simp) fun y hy => (T.free y hy).1
theorem Thing.due {b : Bool} {z : Str} {ns : List Str} {is : List Int} (T : Thing b z ns is) : due b (Txt.join " " (words z ns is)) = some (vals z ns is) := by
  unfold K4.due
  rw [T.split]
  unfold words
  rw [formed_some T.sh]
  have e1 : (ns ++ is.map fun i => Str.ofString (toString i)).take ns.length = ns := by simp
  have e2 : (ns ++ is.map fun i => Str.ofString (toString i)).drop ns.length = is.map fun i => Str.ofString (toString i) := by simp
  rw [e1, e2, if_pos]
  · unfold vals
    rw [List.map_map]
    congr 3
    exact List.map_congr_left fun i hi => congrArg V.int (okI_num (T.im i hi).1 (T.im i hi).2).2.1
  · refine ⟨by simp, List.all_eq_true.mpr T.nm, List.all_eq_true.mpr fun y hy => ?_⟩
    obtain ⟨i, hi, rfl⟩ := List.mem_map.mp hy
    exact (okI_num (T.im i hi).1 (T.im i hi).2).1
theorem Thing.other {b : Bool} {z : Str} {ns : List Str} {is : List Int} (T : Thing b z ns is) : K4.due (!b) (Txt.join " " (words z ns is)) = none := by
  unfold K4.due
  rw [T.split]
  unfold words
  exact formed_none (shape_facts b _ (shapeIn_mem T.sh)).2.1 _
theorem sum_le_mul {c : Nat} : ∀ {l : List Nat}, (∀ x ∈ l, x ≤ c) → l.sum ≤ l.length * c
  | [], _ => by simp
  | a :: l, h => by
    have := sum_le_mul (l := l) fun x hx => h x (List.mem_cons_of_mem _ hx)
    have := h a List.mem_cons_self
    rw [List.sum_cons, List.length_cons, Nat.succ_mul]
    omega
theorem Thing.size {b : Bool} {z : Str} {ns : List Str} {is : List Int} (T : Thing b z ns is) : (words z ns is).length ≤ 9 ∧ ((words z ns is).map (·.length)).sum ≤ 117 := by
  have l := shape_lim T.sh
  have h1 : (words z ns is).length ≤ 9 := by
    unfold words
    simp only [List.length_cons, List.length_append, List.length_map]
    omega
  refine ⟨h1, Nat.le_trans (sum_le_mul (c := 13) fun x hx => ?_) ?_⟩
  · obtain ⟨y, hy, rfl⟩ := List.mem_map.mp hx
    rw [← len_tl]
    exact (T.free y hy).2
  · rw [List.length_map]
    omega
theorem join_len (ws : List Str) : (Txt.join " " ws).length ≤ (ws.map (·.length)).sum + ws.length := by
  have := StrLaws.join_length_le " " ws
  rw [show ((" " : Str).length) = 1 from by decide +kernel, Nat.mul_one] at this
  rw [join_eq]
  exact this
theorem Thing.len {b : Bool} {z : Str} {ns : List Str} {is : List Int} (T : Thing b z ns is) : (Txt.join " " (words z ns is)).length ≤ 126 := by
  have := join_len (words z ns is)
  have := T.size
  omega
/-! ### the starts of texts -/
theorem tl_cut1 (x : Str) : tl (cutS x (some 1) none) = (tl x).drop 1 := by
  unfold cutS
  show List.take _ _ = _
  rw [show HT.sIx x.length 0 (some 1) = min 1 x.length from HT.sIx_nat _ _ 1, HT.sIx_none]
  rw [← len_tl]
  cases e : tl x with
  | nil => simp [e]
  | cons a r =>
    have : x.cps.toList = a :: r := e
    rw [this]
    simp
theorem tl_cut0 (x : Str) : tl (cutS x (some 0) none) = tl x := by
  unfold cutS
  show List.take _ _ = _
  rw [show HT.sIx x.length 0 (some 0) = min 0 x.length from HT.sIx_nat _ _ 0, HT.sIx_none, ← len_tl]
  simp only [Nat.zero_min, List.drop_zero, Nat.sub_zero]
  exact List.take_of_length_le (Nat.le_refl _)
theorem tl_cutTo1 (x : Str) : tl (cutS x none (some 1)) = (tl x).take 1 := by
  unfold cutS
  show List.take _ _ = _
  rw [show HT.sIx x.length x.length (some 1) = min 1 x.length from HT.sIx_nat _ _ 1, HT.sIx_none, ← len_tl]
  cases e : tl x with
  | nil => simp [e]
  | cons a r =>
    have : x.cps.toList = a :: r := e
    rw [this]
    simp
theorem head_take (l : List Nat) (c : Nat) : l.take 1 = [c] ↔ l.head? = some c := by
  cases l with
  | nil => simp
  | cons a r => simp
theorem starts_minus (x : Str) : Txt.startswith x "-" = decide ((tl x).head? = some 45) := by
  have e : Txt.startswith x "-" = true ↔ (tl x).head? = some 45 := by
    unfold Txt.startswith
    rw [StrLaws.subAt_eq, show (("-" : Str).length) = 1 from by decide +kernel, show ("-" : Str).cps.toList = [45] from by decide +kernel]
    show (decide (0 + 1 ≤ x.length) && ((tl x).drop 0).take 1 == [45]) = true ↔ _
    rw [List.drop_zero, Bool.and_eq_true, beq_iff_eq, head_take, decide_eq_true_eq]
    refine ⟨fun h => h.2, fun h => ⟨?_, h⟩⟩
    rw [← len_tl]
    cases q : tl x with
    | nil => rw [q] at h; cases h
    | cons a r => simp
  cases h : Txt.startswith x "-" with
  | true => exact (decide_eq_true (e.mp h)).symm
  | false =>
    refine (decide_eq_false fun q => ?_).symm
    rw [e.mpr q] at h
    cases h
end K4

set_option Elab.async false
set_option linter.all false
set_option maxRecDepth 100000
set_option maxHeartbeats 4000000
/-! The law's bag of numbers and its draws. -/
namespace K4
open PySem L2
def top (i : Nat) : Stmt := PySem.Challenge.pw_figurehold_k41_texts_of_steps_and_claims.main.body.getD i (.Pass ⟨0, 0, 0, 0⟩)
abbrev sBag : Stmt := top 24
abbrev sDraw : Stmt := top 25
theorem ifY {b : Bool} {A B : Prop} (e : b = true) (h : A) : if b = true then A else B := by rw [if_pos e]; exact h
theorem ifN {b : Bool} {A B : Prop} (e : b = false) (h : B) : if b = true then A else B := by rw [e]; exact h
/-- at p the bag: its great numbers at g, its cells at c -/
def BagL (H : Hp) (p g c : Addr) : Prop := ∃ (i b k : Int) (gs ns : List Int), H p = some (.lst [.int i, .int b, .ref g, .ref c, .int k]) ∧ H g = some (.lst (gs.map V.int)) ∧ H c = some (.lst (ns.map V.int)) ∧
  ns ≠ [] ∧ 0 ≤ b ∧ (∀ x ∈ gs, 0 ≤ x) ∧ (∀ x ∈ ns, 0 ≤ x ∧ x < 2147483647) ∧ ns.length ≤ 1000000 ∧ gs.length ≤ 1000000 ∧ g ≠ p ∧ c ≠ p ∧ c ≠ g
/-- all but the bag stands -/
def Bt (p g : Addr) (H H' : Hp) : Prop := ∀ a o, a ≠ p → a ≠ g → H a = some o → H' a = some o
theorem Bt.refl {p g : Addr} {H : Hp} : Bt p g H H := fun _ _ _ _ e => e
theorem Bt.trans {p g : Addr} {H H' H'' : Hp} (h : Bt p g H H') (h' : Bt p g H' H'') : Bt p g H H'' := fun a o n m e => h' a o n m (h a o n m e)
theorem Bt.same {p g : Addr} {H H' : Hp} (h : Same H H') : Bt p g H H' := fun a o _ _ e => h a o e
theorem Bt.new {p g q : Addr} {o : HO} {H : Hp} (h : H q = none) : Bt p g H (upd H q o) := fun a x _ _ e => (upd_ne (ne_of_none e h)).trans e
theorem Bt.put {p g : Addr} {o : HO} {H : Hp} : Bt p g H (upd H p o) := fun a x n _ e => (upd_ne n).trans e
theorem Bt.put2 {p g : Addr} {o : HO} {H : Hp} : Bt p g H (upd H g o) := fun a x _ n e => (upd_ne n).trans e
/-- a list of one's own is changed -/
theorem Bt.set {p g q : Addr} {o : HO} {H G : Hp} (h : Bt p g H G) (n : H q = none) : Bt p g H (upd G q o) := fun a x m m' e => (upd_ne (ne_of_none e n)).trans (h a x m m' e)
theorem same_new {q : Addr} {o : HO} {H : Hp} (h : H q = none) : Same H (upd H q o) := fun a x e => (upd_ne (ne_of_none e h)).trans e
theorem BagL.set {H : Hp} {p g c q : Addr} {o : HO} (h : BagL H p g c) (np : q ≠ p) (ng : q ≠ g) (nc : q ≠ c) : BagL (upd H q o) p g c := by
  obtain ⟨i, b, k, gs, ns, h1, h2, h3, r⟩ := h
  exact ⟨i, b, k, gs, ns, (upd_ne (Ne.symm np)).trans h1, (upd_ne (Ne.symm ng)).trans h2, (upd_ne (Ne.symm nc)).trans h3, r⟩
theorem BagL.ne {H : Hp} {p g c q : Addr} (h : BagL H p g c) (n : H q = none) : q ≠ p ∧ q ≠ g ∧ q ≠ c := by
  obtain ⟨i, b, k, gs, ns, h1, h2, h3, r⟩ := h
  exact ⟨fun z => (by rw [z, h1] at n; cases n), fun z => (by rw [z, h2] at n; cases n), fun z => (by rw [z, h3] at n; cases n)⟩
theorem BagL.up {H : Hp} {p g c q : Addr} {o : HO} (h : BagL H p g c) (n : H q = none) : BagL (upd H q o) p g c := by
  obtain ⟨a, b, d⟩ := h.ne n
  exact h.set a b d
theorem BagL.same {H G : Hp} {p g c : Addr} (h : BagL H p g c) (s : Same H G) : BagL G p g c := by
  obtain ⟨i, b, k, gs, ns, h1, h2, h3, r⟩ := h
  exact ⟨i, b, k, gs, ns, s _ _ h1, s _ _ h2, s _ _ h3, r⟩
def spDraw : Sp := fun vs H Q _ => ∃ (p g c : Addr) (k : Int), vs = [.ref p, .int k] ∧ BagL H p g c ∧ 0 < k ∧ k ≤ 10 ^ 9 ∧ ∀ (z : Int) (H' : Hp), 0 ≤ z → z < k → BagL H' p g c → Bt p g H H' → Q (.int z) H'
def spBag (K : PySem.W.Frag) : Sp := fun vs H Q _ => ∃ (a : Addr) (ns : List Int), vs = [.ref a] ∧ SqL K H a (ns.map V.int) ∧ ns.length ≤ 1000 ∧ ∀ (p g c : Addr) (H' : Hp), Same H H' → BagL H' p g c → Q (.ref p) H'
structure BagTxt (K : PySem.W.Frag) (mg : Str → Option Value) : Prop where
  len : mg "len" = none
  int : mg "int" = none
  abs : mg "abs" = none
section
variable {P : Program} {w : World} {K : PySem.W.Frag} {mg : Str → Option Value} {base : Heap}
theorem scDraw : FnScope ["bag", "many", "drawn", "cell", "mixed"] ["bag", "many"] (defScope sDraw) := ⟨rfl, rfl, rfl, by decide +kernel, rfl, by decide +kernel, by decide +kernel⟩
theorem wide9 {c k : Int} (h0 : 0 < k) (h : k ≤ 10 ^ 9) : CDivW c k := by
  refine wide_div h0 (b := 64) ?_ (by decide) (by decide)
  have : (2 : Nat) ^ 64 = 18446744073709551616 := by decide
  omega
theorem ok_draw {f : Addr} {fd : FuncData} (F : Fun K "_law_draw" "_law_draw" sDraw f fd) (T : BagTxt K mg) : FnOk P w K mg base CX0 1 f fd ["bag", "many"] spDraw := by
  refine F.ok scDraw (fun vs H Q E h => ?_) (fun cdv A outer s H vs Q E hr h => ?_)
  · obtain ⟨p, g, c, k, rfl, _⟩ := h
    rfl
  · obtain ⟨p, g, c, k, rfl, hb, k0, k9, go⟩ := h
    refine ⟨_, pss_cons (ps_asg (pe_op op_add (pe_ix ix_list (pv 0) pe_int (fun _ _ => rfl)) pe_int) (pg_sub (pv 0) pe_int set_list))
      (C8.pss_cut (ps_if (PW.pt (pw_and (pt_cmpR op_eq (pe_ix ix_list (pv 0) pe_int (fun _ _ => rfl)) pe_int (nomark _)) (pw_and1 (pt_cmpR op_gt (pe_callB call_len_seq (by rfl) T.len PySem.boot_len (pa_cons (pe_ix ix_list (pv 0) pe_int (fun _ _ => rfl)) pa_nil)) pe_int (nomark _)))))
        (pss_cons (ps_asg (pe_bm0 PySem.F.plainAttrs_list PySem.F.slot_list_pop PySem.F.type_list_pop mt_pop (pe_ix ix_list (pv 0) pe_int (fun _ _ => rfl))) (pg_sub (pv 0) pe_int set_list)) (pss_one (ps_asg pe_int (pg_sub (pv 0) pe_int set_list)))) pss_nil)
      (pss_cons (ps_if (pt_cmpR op_gt (pe_ix ix_list (pv 0) pe_int (fun _ _ => rfl)) pe_int (nomark _))
        (pss_cons (ps_set (i := 2) scDraw.nd rfl (Or.inl rfl) (pe_op op_modN (pe_callTy call_int1 (by rfl) T.int (by decide +kernel) (pa_cons (pe_ix ix_list (pv 0) pe_int (fun _ _ => rfl)) pa_nil)) (pv 1)))
        (pss_cons (ps_asg (pe_op op_sub (pe_ix ix_list (pv 0) pe_int (fun _ _ => rfl)) pe_int) (pg_sub (pv 0) pe_int set_list))
        (pss_cons (ps_asg (pe_op op_mul (pe_op op_fdivW (pe_ix ix_list (pv 0) pe_int (fun _ _ => rfl)) (pv 1)) (pe_callTy call_int1 (by rfl) T.int (by decide +kernel) (pa_cons (pe_cmpR op_gt (pe_ix ix_list (pv 0) pe_int (fun _ _ => rfl)) pe_int (nomark _)) pa_nil))) (pg_sub (pv 0) pe_int set_list))
        (pss_one (ps_ret (pv 2)))))) pss_nil)
      (pss_cons (ps_set (i := 3) scDraw.nd rfl (Or.inl rfl) (pe_ix ix_list (pe_ix ix_list (pv 0) pe_int (fun _ _ => rfl)) (pe_op op_modN (pe_callTy call_int1 (by rfl) T.int (by decide +kernel) (pa_cons (pe_ix ix_list (pv 0) pe_int (fun _ _ => rfl)) pa_nil)) (pe_callB call_len_seq (by rfl) T.len PySem.boot_len (pa_cons (pe_ix ix_list (pv 0) pe_int (fun _ _ => rfl)) pa_nil))) (fun _ _ => rfl)))
      (pss_cons (ps_set (i := 4) scDraw.nd rfl (Or.inl rfl) (pe_op op_mod (pe_callTy call_int1 (by rfl) T.int (by decide +kernel) (pa_cons (pe_op op_add (pe_op op_add (pe_op op_mul (pv 3) pe_int) (pe_op op_mul (pe_ix ix_list (pv 0) pe_int (fun _ _ => rfl)) pe_int)) pe_int) pa_nil)) pe_int))
      (pss_one (ps_ret (pe_op op_modN (pe_op op_fdiv (pe_op op_mod (pe_callTy call_int1 (by rfl) T.int (by decide +kernel) (pa_cons (pe_op op_add (pe_op op_add (pe_op op_mul (pv 4) (pv 4)) (pe_op op_mul (pv 4) pe_int)) (pe_op op_mul (pe_ix ix_list (pv 0) pe_int (fun _ _ => rfl)) pe_int)) pa_nil)) pe_int) pe_int) (pv 1)))))))), ?_⟩
    obtain ⟨i, b, kk, gs, ns, h1, h2, h3, n0, b0, gp, np, nl, gl, gnp, cnp, cng⟩ := hb
    refine ⟨_, rfl, p, _, _, _, rfl, rfl, SqL.of h1, rfl, _, _, rfl, rfl, _, rfl, p, _, _, _, rfl, rfl, h1, rfl, ?_⟩
    show C8.tCut _ _ _ _ (upd H p (.lst [.int (i + 1), .int b, .ref g, .ref c, .int kk]))
    have b1 : BagL (upd H p (.lst [.int (i + 1), .int b, .ref g, .ref c, .int kk])) p g c := ⟨_, _, _, gs, ns, upd_same, (upd_ne gnp).trans h2, (upd_ne cnp).trans h3, n0, b0, gp, np, nl, gl, gnp, cnp, cng⟩
    have t1 : Bt p g H (upd H p (.lst [.int (i + 1), .int b, .ref g, .ref c, .int kk])) := Bt.put
    generalize upd H p (.lst [.int (i + 1), .int b, .ref g, .ref c, .int kk]) = G at b1 t1
    clear h1 h2 h3 n0 b0 gp np nl gl
    refine ⟨fun σ G => σ = [some (.ref p), some (.int k), none, none, none] ∧ BagL G p g c ∧ Bt p g H G, ?_, ?_⟩
    · obtain ⟨i, b, kk, gs, ns, h1, h2, h3, n0, b0, gp, np, nl, gl, _⟩ := b1
      refine ⟨_, rfl, p, _, _, _, rfl, rfl, SqL.of h1, rfl, rfl, _, rfl, ?_⟩
      refine ite2 (fun _ => ?_) (fun _ => ⟨rfl, ⟨_, _, _, _, _, h1, h2, h3, n0, b0, gp, np, nl, gl, gnp, cnp, cng⟩, t1⟩)
      refine ⟨_, rfl, p, _, _, _, rfl, rfl, SqL.of h1, rfl, g, _, rfl, .inl (SqL.of h2), _, _, rfl, rfl, _, rfl, ?_⟩
      refine ite2 (fun hl => ?_) (fun _ => ⟨rfl, ⟨_, _, _, _, _, h1, h2, h3, n0, b0, gp, np, nl, gl, gnp, cnp, cng⟩, t1⟩)
      have hl' : 0 < gs.length := by
        have := of_decide_eq_true hl
        rw [List.length_map] at this
        omega
      have hg : (gs.map V.int)[(gs.map V.int).length - 1]? = some (V.int (gs[gs.length - 1]'(by omega))) := by
        rw [List.length_map, List.getElem?_map, List.getElem?_eq_getElem (by omega)]
        rfl
      have ge : (gs.map V.int).dropLast = gs.dropLast.map V.int := (List.map_dropLast ..).symm
      have h0 : 0 ≤ gs[gs.length - 1]'(by omega) := gp _ (List.getElem_mem _)
      refine ⟨_, rfl, p, _, _, _, rfl, rfl, SqL.of h1, rfl, .inl ⟨rfl, _, SqL.of h2⟩, g, _, _, rfl, rfl, h2, hg, ?_⟩
      rw [ge]
      refine ⟨_, rfl, p, _, _, _, rfl, rfl, (upd_ne (Ne.symm gnp)).trans h1, rfl, ?_⟩
      refine ⟨_, rfl, p, _, _, _, rfl, rfl, upd_same, rfl, rfl, ?_, ?_⟩
      · rw [upd_upd]
        exact ⟨i, _, 60, gs.dropLast, ns, upd_same, (upd_ne gnp).trans upd_same, (upd_ne cnp).trans ((upd_ne cng).trans h3), n0, h0, fun x hx => gp x (List.dropLast_subset _ hx), np, nl, by rw [List.length_dropLast]; omega, gnp, cnp, cng⟩
      · rw [upd_upd]
        exact (t1.trans Bt.put2).trans Bt.put
    · rintro σ G ⟨rfl, ⟨i, b, kk, gs, ns, h1, h2, h3, n0, b0, gp, np, nl, gl, _⟩, tG⟩
      refine ⟨_, rfl, p, _, _, _, rfl, rfl, SqL.of h1, rfl, _, _, rfl, rfl, _, rfl, ?_⟩
      refine ite2 (fun hb => ?_) (fun hb => ?_)
      · refine ⟨_, rfl, p, _, _, _, rfl, rfl, SqL.of h1, rfl, .inl ⟨_, rfl, _, rfl, _, _, rfl, rfl, Int.ne_of_gt k0, ?_⟩⟩
        refine ⟨_, rfl, p, _, _, _, rfl, rfl, SqL.of h1, rfl, _, _, rfl, rfl, _, rfl, p, _, _, _, rfl, rfl, h1, rfl, ?_⟩
        refine ⟨_, rfl, p, _, _, _, rfl, rfl, SqL.of upd_same, rfl, _, rfl, _, _, rfl, rfl, wide9 k0 k9, ?_⟩
        refine ⟨_, rfl, p, _, _, _, rfl, rfl, SqL.of upd_same, rfl, _, _, rfl, rfl, .inr ⟨_, rfl, _, _, rfl, rfl, .inr (by split <;> decide), _, rfl, p, _, _, _, rfl, rfl, upd_same, rfl, _, rfl, ?_⟩⟩
        rw [upd_upd]
        refine go _ _ (Int.fmod_nonneg_of_pos _ k0) (Int.fmod_lt_of_pos _ k0) ⟨i, _, kk - 1, gs, ns, upd_same, (upd_ne gnp).trans h2, (upd_ne cnp).trans h3, n0, ?_, gp, np, nl, gl, gnp, cnp, cng⟩ (tG.trans Bt.put)
        exact Int.mul_nonneg (Int.ediv_nonneg b0 (Int.le_of_lt k0)) (by split <;> decide)
      · have nl' : ((ns.map V.int).length : Int) ≠ 0 := by
          rw [List.length_map]
          intro z
          exact n0 (List.length_eq_zero_iff.mp (by omega))
        have np' : (0 : Int) < ((ns.map V.int).length : Nat) := by omega
        refine ⟨_, rfl, p, _, _, _, rfl, rfl, SqL.of h1, rfl, _, rfl, p, _, _, _, rfl, rfl, SqL.of h1, rfl, .inl ⟨_, rfl, ?_⟩⟩
        refine ⟨_, rfl, p, _, _, _, rfl, rfl, SqL.of h1, rfl, c, _, rfl, .inl (SqL.of h3), _, _, rfl, rfl, nl', ?_⟩
        obtain ⟨j, hj⟩ : ∃ j : Nat, i.fmod ((ns.map V.int).length : Nat) = j := ⟨(i.fmod ((ns.map V.int).length : Nat)).toNat, by have := Int.fmod_nonneg_of_pos i np'; omega⟩
        have hj2 : j < ns.length := by
          have := Int.fmod_lt_of_pos i np'
          rw [hj, List.length_map] at this
          omega
        have hv : (ns.map V.int)[j]? = some (V.int ns[j]) := by simp [hj2]
        obtain ⟨x0, x1⟩ := np ns[j] (List.getElem_mem _)
        refine ⟨c, _, _, _, rfl, rfl, SqL.of h3, (by rw [hj]; exact atI_nat hv), ?_⟩
        refine ⟨_, rfl, _, _, rfl, rfl, .inr (by decide), _, rfl, p, _, _, _, rfl, rfl, SqL.of h1, rfl, _, _, rfl, rfl, .inr (by decide), _, _, rfl, rfl, _, _, rfl, rfl, .inl ⟨_, rfl, _, _, rfl, rfl, (by show (0 : Int) < 2147483647; decide), ?_⟩⟩
        have m0 := Int.emod_nonneg (ns[j] * 48271 + i * 69621 + 1) (show (2147483647 : Int) ≠ 0 by decide)
        have m1 := Int.emod_lt_of_pos (ns[j] * 48271 + i * 69621 + 1) (show (0 : Int) < 2147483647 by decide)
        generalize (ns[j] * 48271 + i * 69621 + 1) % 2147483647 = m at m0 m1 ⊢
        refine ⟨_, rfl, _, rfl, _, _, rfl, rfl, .inl ⟨by omega, by omega⟩, _, rfl, _, _, rfl, rfl, .inr (by decide), _, _, rfl, rfl, _, rfl, p, _, _, _, rfl, rfl, SqL.of h1, rfl, _, _, rfl, rfl, .inr (by decide), _, _, rfl, rfl, .inl ⟨_, rfl, ?_⟩⟩
        refine ⟨_, _, rfl, rfl, (by show (0 : Int) < 2147483629; decide), _, _, rfl, rfl, ⟨by decide, by decide⟩, _, rfl, _, _, rfl, rfl, Int.ne_of_gt k0, ?_⟩
        exact go _ _ (Int.fmod_nonneg_of_pos _ k0) (Int.fmod_lt_of_pos _ k0) ⟨i, b, kk, gs, ns, h1, h2, h3, n0, b0, gp, np, nl, gl, gnp, cnp, cng⟩ tG
end
end K4

set_option Elab.async false
set_option linter.all false
set_option maxRecDepth 100000
set_option maxHeartbeats 4000000
set_option autoImplicit false
/-! The bag is laid. -/
namespace K4
open PySem L2
section
variable {P : Program} {w : World} {K : PySem.W.Frag} {mg : Str → Option Value} {base : Heap}
theorem scBag : FnScope ["script", "cell", "cells", "great"] ["script"] (defScope sBag) := ⟨rfl, rfl, rfl, by decide +kernel, rfl, by decide +kernel, by decide +kernel⟩
theorem abs_nonneg (i : Int) : 0 ≤ (if i < 0 then -i else i) := by split <;> omega
theorem map_at {ns : List Int} {i : Nat} {y : V} (h : (ns.map V.int)[i]? = some y) : ∃ u, y = V.int u ∧ ns[i]? = some u := by
  rw [List.getElem?_map] at h
  cases e : ns[i]? with
  | none => rw [e] at h; cases h
  | some u => rw [e] at h; exact ⟨u, (Option.some.inj h).symm, rfl⟩
theorem take_snoc {α : Type} {l : List α} {i : Nat} {u : α} (h : l[i]? = some u) : l.take (i + 1) = l.take i ++ [u] := by
  obtain ⟨lt, e⟩ := List.getElem?_eq_some_iff.mp h
  rw [List.take_succ_eq_append_getElem lt, e]
theorem ok_bag {f : Addr} {fd : FuncData} (F : Fun K "_law_bag" "_law_bag" sBag f fd) (T : BagTxt K mg) : FnOk P w K mg base CX0 1 f fd ["script"] (spBag K) := by
  refine F.ok scBag (fun vs H Q E h => ?_) (fun cdv A outer s H vs Q E hr h => ?_)
  · obtain ⟨a, ns, rfl, _⟩ := h
    rfl
  · obtain ⟨a, ns, rfl, hS, hl, go⟩ := h
    refine ⟨_, pss_cons (ps_set (i := 2) scBag.nd rfl (Or.inl rfl) (pe_op op_cat (pe_lc (own := [("cell", 1)]) (g := gName 1) rfl scBag.nd (pi_list (pv 0)) (blkOk_by (own := [("cell", 1)]) (N := ["script", "cell", "cells", "great"]) (sc := defScope sBag) (by decide +kernel))
        (fun _ _ _ _ _ => pg_name (i := 1) scBag.nd rfl (Or.inl rfl)) (fun _ _ _ _ _ => pts_nil) (fun _ _ _ _ _ => pe_callTy call_int1 (by rfl) T.int (by decide +kernel) (pa_cons (pv 1) pa_nil))) (pe_lst (pa_cons pe_int pa_nil))))
      (pss_cons (ps_set (i := 3) scBag.nd rfl (Or.inl rfl) (pe_lst pa_nil))
      (C8.pss_cut (ps_if (pt_cmpR op_eq (pe_op op_mod (pe_callTy call_int1 (by rfl) T.int (by decide +kernel) (pa_cons (pe_ix ix_list (pv 2) pe_int (fun _ _ => rfl)) pa_nil)) pe_int) pe_int (nomark _))
        (pss_cons (ps_setLc (i := 3) (own := [("cell", 1)]) (g := gName 1) rfl scBag.nd rfl rfl (sw_true rfl rfl rfl (by decide +kernel)) (pi_list (pv 2)) (blkOk_by (own := [("cell", 1)]) (N := ["script", "cell", "cells", "great"]) (sc := defScope sBag) (by decide +kernel))
          (fun _ _ _ _ _ => pg_name (i := 1) scBag.nd rfl (Or.inl rfl)) (fun _ _ _ _ _ => pts_one (pt_cmpR op_ge (pe_callB call_abs (by rfl) T.abs (by decide +kernel) (pa_cons (pv 1) pa_nil)) (pe_op op_pow pe_int pe_int) (nomark _)))
          (fun _ _ _ _ _ => pe_op op_fdiv (pe_callB call_abs (by rfl) T.abs (by decide +kernel) (pa_cons (pv 1) pa_nil)) pe_int))
        (pss_one (ps_expr (pe_bm0 PySem.F.plainAttrs_list PySem.F.slot_list_reverse PySem.F.type_list_reverse mt_reverse (pv 3))))) pss_nil)
      (pss_one (ps_ret (pe_lst (pa_cons pe_int (pa_cons pe_int (pa_cons (pv 3) (pa_cons (pe_lc (own := [("cell", 1)]) (g := gName 1) rfl scBag.nd (pi_list (pv 2)) (blkOk_by (own := [("cell", 1)]) (N := ["script", "cell", "cells", "great"]) (sc := defScope sBag) (by decide +kernel))
        (fun _ _ _ _ _ => pg_name (i := 1) scBag.nd rfl (Or.inl rfl)) (fun _ _ _ _ _ => pts_nil) (fun _ _ _ _ _ => pe_op op_mod (pe_callTy call_int1 (by rfl) T.int (by decide +kernel) (pa_cons (pv 1) pa_nil)) pe_int)) (pa_cons pe_int pa_nil)))))))))), ?_⟩
    refine ⟨_, rfl, a, rfl, ⟨_, hS⟩, fun D nD => ?_⟩
    refine lc_list (K := K) (a := a) (xs := ns.map V.int) (fun i G => Same H G ∧ G D = some (.lst ((ns.take i).map V.int))) ⟨same_new nD, upd_same⟩ (fun i G _ ⟨sG, _⟩ => sG.seq hS) (fun i y G hi ⟨sG, hD⟩ => ?_) (fun G ⟨sG, hD⟩ => ?_)
    · obtain ⟨u, rfl, hu⟩ := map_at hi
      refine ⟨rfl, _, rfl, .inl ⟨_, rfl, _, hD, ?_, fun b o e => (upd_ne (ne_of_none e nD)).trans (sG b o e), ?_⟩⟩
      · rw [List.length_map, List.length_take, sizeLine_eq]
        omega
      · rw [upd_same, take_snoc hu, List.map_append]
        rfl
    · rw [List.length_map, List.take_length] at hD
      have hD' : G D = some (.lst (ns.map V.int)) := hD
      clear hD
      have ss : Same H G := sG
      refine ⟨by show 1 ≤ sizeLine; decide, fun L nL => ?_⟩
      have DL : D ≠ L := ne_of_none hD' nL
      refine ⟨D, L, _, _, rfl, rfl, (upd_ne DL).trans hD', upd_same, ?_, fun C nC => ?_⟩
      · rw [List.length_map, sizeLine_eq]
        show ns.length + 1 ≤ _
        omega
      have nC0 : upd G L (.lst [.int 7]) C = none := nC
      have e1 : Same H (upd (upd G L (.lst [.int 7])) C (.lst (ns.map V.int ++ [.int 7]))) := (ss.trans (same_new nL)).trans (same_new nC)
      have c1 : upd (upd G L (.lst [.int 7])) C (.lst (ns.map V.int ++ [.int 7])) C = some (.lst ((ns ++ [7]).map V.int)) := by rw [upd_same, List.map_append]; rfl
      generalize upd (upd G L (.lst [.int 7])) C (.lst (ns.map V.int ++ [.int 7])) = G1 at e1 c1 ⊢
      clear hD' nL nC nC0 DL
      generalize hm : ns ++ [7] = ms at c1
      have m0 : ms ≠ [] := by rw [← hm]; simp
      have ml : ms.length ≤ 1001 := by rw [← hm, List.length_append]; simp; omega
      refine ⟨Nat.zero_le _, fun g ng => ?_⟩
      have e2 : Same H (upd G1 g (.lst [])) := e1.trans (same_new ng)
      have c2 : upd G1 g (.lst []) C = some (.lst (ms.map V.int)) := (upd_ne (ne_of_none c1 ng)).trans c1
      have g2 : upd G1 g (.lst []) g = some (.lst (([] : List Int).map V.int)) := upd_same
      have gC : g ≠ C := fun z => by rw [z, c1] at ng; cases ng
      generalize upd G1 g (.lst []) = G2 at e2 c2 g2 ⊢
      clear e1 c1 ng
      show C8.tCut _ _ _ _ _
      refine ⟨fun σ G => ∃ (g : Addr) (gs : List Int) (u : Option V), σ = [some (.ref a), u, some (.ref C), some (.ref g)] ∧ Same H G ∧ G C = some (.lst (ms.map V.int)) ∧ G g = some (.lst (gs.map V.int)) ∧ (∀ x ∈ gs, 0 ≤ x) ∧ gs.length ≤ 1001 ∧ g ≠ C, ?_, ?_⟩
      · obtain ⟨m, mr, em⟩ : ∃ m mr, ms = m :: mr := by
          cases ms with
          | nil => exact absurd rfl m0
          | cons m mr => exact ⟨m, mr, rfl⟩
        refine ⟨_, rfl, C, _, _, _, rfl, rfl, SqL.of c2, (show atI _ ((0 : Nat) : Int) = some (V.int m) from atI_nat (by rw [em]; rfl)), .inl ⟨_, rfl, _, _, rfl, rfl, (by show (0 : Int) < 2; decide), rfl, _, rfl, ?_⟩⟩
        refine ite2 (fun _ => ?_) (fun _ => ⟨g, [], _, rfl, e2, c2, g2, fun x hx => (nomatch hx), Nat.zero_le _, gC⟩)
        refine ⟨_, rfl, C, rfl, ⟨_, SqL.of c2⟩, fun D nD => ?_⟩
        have DC : D ≠ C := fun z => by rw [z, c2] at nD; cases nD
        refine lc_list (K := K) (a := C) (xs := ms.map V.int) (fun i G => Same H G ∧ G C = some (.lst (ms.map V.int)) ∧ ∃ gs : List Int, G D = some (.lst (gs.map V.int)) ∧ (∀ x ∈ gs, 0 ≤ x) ∧ gs.length ≤ i)
          ⟨e2.trans (same_new nD), (upd_ne (Ne.symm DC)).trans c2, [], upd_same, fun x hx => (nomatch hx), Nat.le_refl _⟩ (fun i G _ ⟨_, h, _⟩ => SqL.of h) (fun i y G hi ⟨sG, hc, gs, hD, g0, gl⟩ => ?_) (fun G ⟨sG, hc, gs, hD, g0, gl⟩ => ?_)
        · obtain ⟨u, rfl, hu⟩ := map_at hi
          have li : i < ms.length := (List.getElem?_eq_some_iff.mp hu).1
          refine ⟨rfl, ?_⟩
          refine ⟨_, rfl, u, rfl, _, _, rfl, rfl, ⟨by decide, by decide, by decide⟩, _, _, rfl, rfl, _, rfl, ?_⟩
          refine ite2 (fun _ => ?_) (fun _ => ?_)
          · refine ⟨_, rfl, u, rfl, _, _, rfl, rfl, ⟨by decide, by decide⟩, _, hD, ?_, fun b o e => (upd_ne (ne_of_none (e2 b o e) nD)).trans (sG b o e), (upd_ne (Ne.symm DC)).trans hc, gs ++ [(if u < 0 then -u else u) / 2], ?_, fun x hx => ?_, ?_⟩
            · rw [List.length_map, sizeLine_eq]
              omega
            · rw [upd_same, List.map_append]
              rfl
            · rcases List.mem_append.mp hx with hx | hx
              · exact g0 x hx
              · rw [List.mem_singleton.mp hx]
                exact Int.ediv_nonneg (abs_nonneg u) (by decide)
            · rw [List.length_append]
              simp
              omega
          · exact ⟨sG, hc, gs, hD, g0, Nat.le_succ_of_le gl⟩
        · rw [List.length_map] at gl
          refine ⟨_, rfl, .inl ⟨rfl, _, SqL.of hD⟩, D, _, rfl, rfl, hD, ?_⟩
          refine ⟨D, gs.reverse, _, rfl, fun b o e => (upd_ne (ne_of_none (e2 b o e) nD)).trans (sG b o e), (upd_ne (Ne.symm DC)).trans hc, ?_, fun x hx => g0 x (List.mem_reverse.mp hx), by rw [List.length_reverse]; omega, DC⟩
          rw [upd_same, List.map_reverse]
      · rintro σ G ⟨g, gs, u, rfl, sG, hc, hg, g0, gl, gC⟩
        refine ⟨_, rfl, ?_⟩
        refine ⟨_, rfl, C, rfl, ⟨_, SqL.of hc⟩, fun D nD => ?_⟩
        have DC : D ≠ C := fun z => by rw [z, hc] at nD; cases nD
        have Dg : D ≠ g := fun z => by rw [z, hg] at nD; cases nD
        refine lc_list (K := K) (a := C) (xs := ms.map V.int) (fun i F => Same H F ∧ F C = some (.lst (ms.map V.int)) ∧ F g = some (.lst (gs.map V.int)) ∧ F D = some (.lst (((ms.take i).map fun x => x % 2147483647).map V.int)))
          ⟨sG.trans (same_new nD), (upd_ne (Ne.symm DC)).trans hc, (upd_ne (Ne.symm Dg)).trans hg, upd_same⟩ (fun i F _ h => SqL.of h.2.1) (fun i y F hi ⟨sF, fc, fg, fD⟩ => ?_) (fun F ⟨sF, fc, fg, fD⟩ => ?_)
        · obtain ⟨u, rfl, hu⟩ := map_at hi
          refine ⟨rfl, _, rfl, .inl ⟨_, rfl, _, _, rfl, rfl, (by show (0 : Int) < 2147483647; decide), _, fD, ?_, fun b o e => (upd_ne (ne_of_none (sG b o e) nD)).trans (sF b o e), (upd_ne (Ne.symm DC)).trans fc, (upd_ne (Ne.symm Dg)).trans fg, ?_⟩⟩
          · rw [List.length_map, List.length_map, List.length_take, sizeLine_eq]
            omega
          · rw [upd_same, take_snoc hu, List.map_append, List.map_append]
            rfl
        · rw [List.length_map, List.take_length] at fD
          refine ⟨by show 5 ≤ sizeLine; decide, fun p np => ?_⟩
          have b1 := ne_of_none fg np
          have b2 := ne_of_none fD np
          refine go p g D _ (sF.trans (same_new np)) ⟨0, 0, 0, gs, ms.map fun x => x % 2147483647, upd_same, (upd_ne b1).trans fg, (upd_ne b2).trans fD, ?_, by decide, g0, fun x hx => ?_, ?_, by omega, b1, b2, Dg⟩
          · cases ms with
            | nil => exact absurd rfl m0
            | cons m mr => simp
          · obtain ⟨y, _, rfl⟩ := List.mem_map.mp hx
            exact ⟨Int.emod_nonneg _ (by decide), Int.emod_lt_of_pos _ (by decide)⟩
          · rw [List.length_map]
            omega
end
end K4

set_option Elab.async false
set_option linter.all false
set_option maxRecDepth 100000
set_option maxHeartbeats 4000000
set_option autoImplicit false
/-! BadValue(0): made, raised. -/
namespace K4
open PySem L2
abbrev sBadValue : Stmt := inClass (top 2) 0
def spIni (K : PySem.W.Frag) (C : Addr) : Sp := fun vs H Q _ => ∃ (a : Addr), vs = [.ref a, .int 0] ∧ ErrC K C ∧ PySem.W.findIn K (.ref C) "at" = some none ∧ H a = some (exo a C none) ∧
  ∀ dx, H dx = none → dx ≠ a → Q .non (upd (upd H dx (exd dx [("at", .int 0)])) a (exo a C (some dx)))
theorem fits {a b : Str} (h1 : a.length ≤ 1000) (h2 : b.length ≤ 300000) : (a ++ b).length ≤ sizeLine := by
  rw [strLen_append, sizeLine_eq]
  omega
theorem fits2 {a b c : Str} (h1 : a.length ≤ 1000) (h2 : b.length ≤ 300000) (h3 : c.length ≤ 1000) : (a ++ b ++ c).length ≤ sizeLine := by
  rw [strLen_append, strLen_append, sizeLine_eq]
  omega
theorem heap_of {H : Hp} {a d : Addr} {o1 o2 o3 o4 : HO} (na : H a = none) (ne : d ≠ a) : upd (del (upd (upd (upd H a o1) d o2) a o3) a) d o4 = upd H d o4 := by
  funext b
  by_cases hd : b = d
  · rw [hd, upd_same, upd_same]
  · rw [upd_ne hd, upd_ne hd]
    by_cases ha : b = a
    · rw [ha, del_same, na]
    · rw [del_ne ha, upd_ne ha, upd_ne hd, upd_ne ha]
theorem okN {P : Program} {w : World} {K : PySem.W.Frag} {mg : Str → Option Value} {base : Heap} {x qual : Str} {st : Stmt} {f : Addr} {fd : FuncData} {N ps : List Str} {k : Nat} {sp : Sp} (F : Fun K x qual st f fd) (S : FnScope N ps (defScope st)) (len : ∀ vs H Q E, sp vs H Q E → vs.length = ps.length)
    (body : ∀ (cdv : Value) (A : Around) (outer : List Env) (s : Shared) (H : Hp) (vs : List V) (Q : VK) (E : XK), Room k (A.deeper (PyProof.Rows.envOfC qual (defScope st) s.heap.objs.size f cdv)) → sp vs H Q E →
      ∃ t, PSs (cxOf (L2N.CX P w) P w K mg base N qual (defScope st) f cdv A outer s H E) (defBody st) t ∧ t { nx := fun _ H' => Q .non H', rt := Q } (start N vs) H) : FnOk P w K mg base (L2N.CX P w) (k + 1) f fd ps sp := by
  obtain ⟨oc, od, kV, doc, pm, an, cdv, ct, osl, rfl, lk, hcd⟩ := F.ex
  exact fn_of lk hcd S len fun A outer s H vs Q E hr hsp => body cdv A outer s H vs Q E hr hsp
theorem takes0N {X : Cx} : L2N.Takes X (fun _ _ _ _ => False) := fun _ _ ⟨_, _, _, _, _, _, _, _, _, _, _, _, _, _, _, _, z⟩ => z.elim
section
variable {P : Program} {w : World} {K : PySem.W.Frag} {mg : Str → Option Value} {base : Heap} {B : Addr}
theorem scBadValue : FnScope ["self", "at"] ["self", "at"] (defScope sBadValue) := ⟨rfl, rfl, rfl, by decide +kernel, rfl, by decide +kernel, by decide +kernel⟩
theorem iniBadValue {f C : Addr} {fd : FuncData} (F : Fun K "__init__" "BadValue.__init__" sBadValue f fd) (T : BaseC K B) (gB : mg "FigureError" = some (.ref B)) : FnOk P w K mg base CX0 1 f fd ["self", "at"] (spIni K C) := by
  refine F.ok scBadValue (fun vs H Q E h => ?_) (fun cdv A outer s H vs Q E hr h => ?_)
  · obtain ⟨a, rfl, _⟩ := h
    rfl
  · obtain ⟨a, rfl, TC, no, ha, go⟩ := h
    refine ⟨_, pss_cons (ps_expr (pe_base T rfl gB (pa_cons (pv 0) (pa_cons (pe_joined (.cons pe_str (.cons (pe_fmt (pv 1)) (.cons pe_str .nil)))) pa_nil)))) (pss_one (ps_field (pv 0) (pv 1))), ?_⟩
    refine ⟨_, rfl, _, rfl, by decide +kernel, _, rfl, ?_⟩
    exact .inr ⟨0, rfl, by decide, _, rfl, fits (by decide +kernel) (Nat.le_trans (PyProof.Rows.int_text_len_1921 (by decide)) (by decide)), _, rfl, fits2 (by decide +kernel) (Nat.le_trans (PyProof.Rows.int_text_len_1921 (by decide)) (by decide)) (by decide +kernel), a, C, _, rfl, by show 1 ≤ 1000; decide, TC, ha, _, rfl, _, rfl, a, C, rfl, TC, no, ha, fun dx n ne => go dx n ne⟩
end
/-- what the written part says of the class BadValue -/
structure ValTxt (P : Program) (w : World) (K : PySem.W.Frag) (mg : Str → Option Value) (base : Heap) (B C D fI : Addr) (dI : FuncData) : Prop where
  gC : mg "BadValue" = some (.ref C)
  err : ErrC K C
  iC : PySem.W.findIn K (.ref C) "__init__" = some (some (.ref fI))
  tI : PySem.W.typeIn K (.ref fI) = some (.type "function")
  no : PySem.W.findIn K (.ref C) "at" = some none
  bd : Binds K dI ["self", "at"] []
  ini : FnOk P w K mg base CX0 1 fI dI ["self", "at"] (spIni K C)
  gB : mg "FigureError" = some (.ref B)
  gD : mg "BadClaim" = some (.ref D)
  exm : PySem.W.exmOne K (.ref C) (.ref C) = some true
  kit : PySem.W.kitOne K (.ref C) (.ref B) = some true
  kitD : PySem.W.kitOne K (.ref C) (.ref D) = some false
  ask : AskC K C
  xf : XfC K C
/-- BadValue(0) is raised -/
def Raises (C : Addr) (H : Hp) (E : XK) : Prop := ∀ (G : Hp) (dd : Addr), Same H G → G dd = none → E (.ref C) (some dd) (upd G dd (.xd [("at", .int 0)]))
theorem Raises.up {C : Addr} {H G : Hp} {E : XK} (h : Raises C H E) (s : Same H G) : Raises C G E := fun F dd t n => h F dd (s.trans t) n
section
variable {P : Program} {w : World} {K : PySem.W.Frag} {mg : Str → Option Value} {base : Heap} {B C D fI : Addr} {dI : FuncData}
theorem err_read {H : Hp} {Q : XK} {σ : L2.St} (T : ValTxt P w K mg base B C D fI dI) (go : Raises C H Q) : tErr C (spIni K C) (tCons (tC (.int 0)) tNil) σ H Q := by
  refine ⟨by show 1 ≤ 1000; decide, fun a na => ⟨a, rfl, T.err, T.no, upd_same, fun dx nd ne => ⟨rfl, dx, _, upd_same, (upd_ne ne).trans upd_same, ?_, ?_⟩⟩⟩
  · rw [upd_ne ne] at nd
    exact nd
  · rw [heap_of na ne]
    rw [upd_ne ne] at nd
    exact go H dx (Same.refl H) nd
end
end K4

set_option Elab.async false
set_option linter.all false
set_option maxRecDepth 100000
set_option maxHeartbeats 4000000
set_option autoImplicit false
/-! zip of a list and a text; a text times a number; list of a text. -/
namespace L2
open PySem PySem.Spec PyProof.Rows
/-- the list at a as it stands at each turn, and the signs of z, in new pairs -/
def Itzs (K : PySem.W.Frag) (a : Addr) (z : Str) : It :=
  ⟨fun i H => ∃ (xs : List V) (x : V) (c : Nat), SqL K H a xs ∧ xs[i]? = some x ∧ z.cps[i]? = some c,
    fun i H v H' => ∃ T x c, v = .ref T ∧ H T = none ∧ H' = upd H T (.tup [x, .str ⟨#[c]⟩]) ∧ (∀ xs, SqL K H a xs → xs[i]? = some x) ∧ z.cps[i]? = some c,
    fun i H => ∃ xs : List V, SqL K H a xs ∧ i = min xs.length z.cps.size⟩
section
variable {P : Program} {w : World} {K : PySem.W.Frag} {elts : List Expr} {kk : Nat} {tpos : Pos}
theorem turn_zipS {a N : Addr} {z : Str} {t : Tok} (ha : a < N) :
    Turn P w K (.Tuple elts kk tpos) (Itzs K a z) [N + 4, N + 2, N + 3, N, N + 1] (N + 4)
      (fun i h => IsZip h (N + 4) (N + 2) (N + 3) .none ∧ IsTupOf2 h (N + 2) (.ref N) (.ref (N + 1)) ∧ (∃ a1 a2, IsTupOf2 h (N + 3) a1 a2) ∧ h.IsListIter N a i ∧ h.IsStrIter (N + 1) (strIterType z) z t i) where
  mem := by simp
  obj := fun i h st c hc => by
    obtain ⟨hz, hTI, ⟨x, y, hTO⟩, ⟨o1, e1, _, d1⟩, ⟨o2, e2, _, d2⟩⟩ := st
    have e' : c = N + 4 ∨ c = N + 2 ∨ c = N + 3 ∨ c = N ∨ c = N + 1 := by simpa using hc
    rcases e' with q | q | q | q | q
    · rw [q]; exact ⟨_, hz, fun v q => nomatch q⟩
    · rw [q]; exact ⟨_, hTI, fun v q => nomatch q⟩
    · rw [q]; exact ⟨_, hTO, fun v q => nomatch q⟩
    · rw [q]; exact ⟨o1, e1, fun v q => by rw [d1] at q; cases q⟩
    · rw [q]; exact ⟨o2, e2, fun v q => by rw [d2] at q; cases q⟩
  keep := fun i h h' st k => by
    obtain ⟨hz, hTI, ⟨x, y, hTO⟩, h1, h2⟩ := st
    exact ⟨k _ (by simp) _ hz, k _ (by simp) _ hTI, ⟨x, y, k _ (by simp) _ hTO⟩, h1.at fun o q => k _ (by simp) o q, by obtain ⟨o2, e2, r⟩ := h2; exact ⟨o2, k _ (by simp) o2 e2, r⟩⟩
  item := by
    intro X hP hw hK hc i pins s σ H E I hf st hg
    subst hP hw hK
    obtain ⟨hz, hTI, hTO, h1, h2⟩ := st
    obtain ⟨xs, x, c, hq, hx, hcz⟩ := hg
    obtain ⟨its, rv, p, _⟩ := I.list hq
    obtain ⟨u, hu, ru⟩ := rv.get hx
    have hh : X.A.in1.handled = none := I.ok.hd hc
    have W := GoesN.zip2 (prog := X.prog) (w := X.w) (A := X.A) (elts := elts) (x1 := kk) (pos := tpos) (zip_sep2 (N := N) (fp1 := [a]) (fp2 := []) (fun b hb => by rw [List.mem_singleton.mp hb]; exact ha) (fun b hb => nomatch hb))
      (Draws.list (prog := X.prog) (w := X.w) (A := X.A.in1) hh N a (Nat.ne_of_lt ha) its.toArray) (Draws.text (prog := X.prog) (w := X.w) (A := X.A.in1) hh (N + 1) z t)
    have hi1 : i < its.toArray.size := by
      have : i < its.length := (List.getElem?_eq_some_iff.mp hu).1
      simpa using this
    have hi2 : i < z.cps.size := (Array.getElem?_eq_some_iff.mp hcz).1
    refine W.goes i s _ _ (Nat.lt_min.mpr ⟨hi1, hi2⟩) ⟨hz, hTI, hTO, ⟨h1, p.isList⟩, h2⟩ fun v h' tk hY st' hk htk => ?_
    obtain ⟨T, u1, u2, rfl, hnew, e1, ⟨c2, t2, e2, rfl⟩, oT, hT, hcls, nT, hdat⟩ := hY
    obtain ⟨z1, z2, z3, ⟨z4, _⟩, z5⟩ := st'
    have eu : u1 = u := by
      have : its.toArray[i]? = some u := by simpa using hu
      rw [this] at e1
      exact (Option.some.inj e1).symm
    have ec : c2 = c := by
      rw [hcz] at e2
      exact (Option.some.inj e2).symm
    subst eu ec
    have new : ObjOk X.prog X.w (upd H T (.tup [x, .str ⟨#[c2]⟩])) h' T (.tup [x, .str ⟨#[c2]⟩]) :=
      ⟨by show 2 ≤ sizeLine; decide, [u1, .str ⟨#[c2]⟩ t2], .cons ru (.cons ⟨t2, rfl⟩ .nil), ⟨oT, hT, hcls, nT, hdat⟩⟩
    have I1 : Inv X pins σ (upd H T (.tup [x, .str ⟨#[c2]⟩])) { s with heap := h', toks := tk } :=
      I.turnedNew (t' := tk) (ch := [N + 4, N + 3, N, N + 1]) hk (fun b hb => hf b (by
        have e' : b = N + 4 ∨ b = N + 3 ∨ b = N ∨ b = N + 1 := by simpa using hb
        rcases e' with q | q | q | q <;> simp [q])) hnew new
    refine ⟨.ref T, _, I1, rfl, ⟨T, x, c2, rfl, I.hok.fresh hnew, rfl, fun l hl => by rw [I.list_inj hl hq]; exact hx, hcz⟩, ⟨z1, z2, z3, z4, z5⟩, fun b hb => ?_⟩
    have bT : b < s.heap.objs.size := by
      have e' : b = N + 4 ∨ b = N + 2 ∨ b = N + 3 ∨ b = N ∨ b = N + 1 := by simpa using hb
      rcases e' with q | q | q | q | q
      · rw [q]; exact Heap.lt_size hz
      · rw [q]; exact Heap.lt_size hTI
      · rw [q]; obtain ⟨_, _, e⟩ := hTO; exact Heap.lt_size e
      · rw [q]; obtain ⟨_, e, _⟩ := h1; exact Heap.lt_size e
      · rw [q]; obtain ⟨_, e, _⟩ := h2; exact Heap.lt_size e
    rw [upd_ne (Nat.ne_of_lt (Nat.lt_of_lt_of_le bT hnew))]
    exact (hf b hb).1
  done := by
    intro X hP hw hK hc i pins s σ H E I hf st hg
    subst hP hw hK
    obtain ⟨hz, hTI, hTO, h1, h2⟩ := st
    obtain ⟨xs, hq, hi⟩ := hg
    obtain ⟨its, rv, p, _⟩ := I.list hq
    have hh : X.A.in1.handled = none := I.ok.hd hc
    have W := GoesN.zip2 (prog := X.prog) (w := X.w) (A := X.A) (elts := elts) (x1 := kk) (pos := tpos) (zip_sep2 (N := N) (fp1 := [a]) (fp2 := []) (fun b hb => by rw [List.mem_singleton.mp hb]; exact ha) (fun b hb => nomatch hb))
      (Draws.list (prog := X.prog) (w := X.w) (A := X.A.in1) hh N a (Nat.ne_of_lt ha) its.toArray) (Draws.text (prog := X.prog) (w := X.w) (A := X.A.in1) hh (N + 1) z t)
    have el : min its.toArray.size z.cps.size = i := by
      rw [hi, rv.length]
      simp
    rw [el] at W
    refine W.stops s (fun s1 => Inv X pins σ H s1) _ ⟨hz, hTI, hTO, ⟨h1, p.isList⟩, h2⟩ fun h' tk hk htk => ?_
    exact I.turnedL (t' := tk) (ch := [N + 4, N + 3, N, N + 1]) hk fun b hb => hf b (by
        have e' : b = N + 4 ∨ b = N + 3 ∨ b = N ∨ b = N + 1 := by simpa using hb
        rcases e' with q | q | q | q <;> simp [q])
  self := fun A i s Q E st h => wpAny_pyIter_zip st.1 h
end
def iZipS (K : PySem.W.Frag) (ta : TA) : TI := fun σ H R => ta σ H fun vs H1 => ∃ (a : Addr) (z : Str) (xs : List V), vs = [.ref a, .str z] ∧ SqL K H1 a xs ∧ R (Itzs K a z) H1
theorem pi_zipS {X : Cx} {e e2 : Expr} {ta : TA} {p pos tpos : Pos} {elts : List Expr} {kk : Nat} (hg : Gl X "zip") (hm : X.mg "zip" = none) (ha : PA X [e, e2] ta)
    (hs : starEach [e, e2] X.env = (false, eval e X.env) :: starEach [e2] X.env := by rfl) (hpl : (backTo pos (starEach [e2] X.env)).any (·.1) = false := by rfl) :
    PI X (.Tuple elts kk tpos) (.Call (.Name "zip" p) [e, e2] [] pos) (iZipS X.K ta) := by
  refine ⟨fun pins s σ H R I h => ?_⟩
  refine Call_ (ld_blt I hg hm PyProof.Rows.boot_zip (PyProof.Rows.callWith_type1 (thn (ha.run pos pins s σ H _ I h) fun us s1 ⟨vs, H1, I1, r1, q1⟩ => ?_) hs hpl))
  obtain ⟨a, z, xs, ex, hq, q⟩ := q1
  subst ex
  obtain ⟨u1, u2, rfl, rr1, ⟨t, rfl⟩⟩ := Vals.two r1
  cases rr1
  obtain ⟨its, rv, p1, _⟩ := I1.list hq
  have la : a < s1.heap.objs.size := p1.lt
  refine zip_begins2 (begins_list a its.toArray) (begins_text z t) p1.isList trivial fun h' hz hTI hTO h1 h2 hsz hk => wpAny_pyIter_zip hz ?_
  have I2 : Inv X pins σ H1 { s1 with heap := h' } := I1.kept (t' := s1.toks) hk
  refine ⟨s1.heap.objs.size + 4, [s1.heap.objs.size + 4, s1.heap.objs.size + 2, s1.heap.objs.size + 3, s1.heap.objs.size, s1.heap.objs.size + 1], _, _, H1, rfl, I2, turn_zipS (t := t) la, ⟨hz, hTI, ⟨_, _, hTO⟩, ⟨_, h1, rfl, rfl⟩, ⟨_, h2, rfl, rfl⟩⟩, fun c hcm => ?_, q⟩
  have e' : c = s1.heap.objs.size + 4 ∨ c = s1.heap.objs.size + 2 ∨ c = s1.heap.objs.size + 3 ∨ c = s1.heap.objs.size ∨ c = s1.heap.objs.size + 1 := by simpa using hcm
  have hle : s1.heap.objs.size ≤ c := by
    rcases e' with z | z | z | z | z
    · rw [z]; exact Nat.le_add_right _ _
    · rw [z]; exact Nat.le_add_right _ _
    · rw [z]; exact Nat.le_add_right _ _
    · rw [z]; exact Nat.le_refl _
    · rw [z]; exact Nat.le_add_right _ _
  exact I1.fpOk hle (I1.hok.fresh hle)
theorem walk_zipS {K : PySem.W.Frag} {a : Addr} {z : Str} {xs : List V} {n : Nat} (hn : n = min xs.length z.cps.size) :
    Walk (Itzs K a z) n (fun H => SqL K H a xs) (fun i H v H' => ∃ T x c, v = .ref T ∧ H T = none ∧ H' = upd H T (.tup [x, .str ⟨#[c]⟩]) ∧ xs[i]? = some x ∧ z.cps[i]? = some c) := by
  subst hn
  refine ⟨fun i H hi q => ?_, fun H q => ⟨xs, q, rfl⟩, fun i H v H' _ q y => ?_⟩
  · have h1 : i < xs.length := by omega
    have h2 : i < z.cps.size := by omega
    exact ⟨xs, xs[i], z.cps[i], q, by simp [h1], by simp [h2]⟩
  · obtain ⟨T, x, c, h1, h2, h3, h4, h5⟩ := y
    exact ⟨T, x, c, h1, h2, h3, h4 xs q, h5⟩
section
variable {X : Cx}
/-- s * n -/
def rMulS : R2 := fun x y H Q => ∃ (z : Str) (n : Int), x = .str z ∧ y = .int n ∧ MulOk z n ∧ Q (.str (Txt.mul z n)) H
theorem op_mulS : OpR X (binaryOp .Mult) rMulS := by
  intro pins s σ H x y v u Q I rx ry h
  obtain ⟨z, n, rfl, rfl, ok, q⟩ := h
  obtain ⟨t, rfl⟩ := rx
  obtain ⟨k, rfl⟩ := ry
  exact SB.mul ok fun t' k' => ⟨.str (Txt.mul z n), H, I.tok _, ⟨t', rfl⟩, q⟩
def signsV (z : Str) : List V := z.cps.toList.map fun c => V.str ⟨#[c]⟩
/-- list(s) -/
def rListS : List V → Hp → VK → Prop := fun xs H Q => ∃ z : Str, xs = [.str z] ∧ z.length ≤ sizeLine ∧ ∀ l, H l = none → Q (.ref l) (upd H l (.lst (signsV z)))
theorem call_listS (hc : X.calm = true) : CallR X (.type "list") rListS := by
  intro pins s σ H xs us Q I r h
  obtain ⟨z, rfl, hz, q⟩ := h
  obtain ⟨u, rfl, ⟨t, rfl⟩⟩ := vals1 r
  refine call_list_str (I.ok.hd hc) z t (fun h' tk acc' c' kp e hacc => ?_) hz
  have rv : Vals (signsV z) acc'.toList := by
    refine vals_of_at ?_ fun j x v hx hv => ?_
    · unfold signsV
      rw [List.length_map, Array.length_toList, Array.length_toList, hacc.1]
    · obtain ⟨c, w2, hcz, rfl⟩ := hacc.2 j v (by simpa using hv)
      unfold signsV at hx
      have : z.cps.toList[j]? = some c := by simpa using hcz
      rw [List.getElem?_map, this] at hx
      cases hx
      exact ⟨w2, rfl⟩
  have hl : (signsV z).length ≤ sizeLine := by
    unfold signsV
    rw [List.length_map, Array.length_toList]
    exact hz
  refine ⟨.ref s.heap.objs.size, _, I.laid (t' := tk) kp (Nat.le_refl _) (show ObjOk X.prog X.w _ h' _ (.lst (signsV z)) from ⟨hl, acc'.toList, c', rv, ?_⟩), rfl, q _ (I.hok.fresh (Nat.le_refl _))⟩
  rw [Array.toArray_toList]
  exact e
end
end L2

set_option Elab.async false
set_option linter.all false
set_option maxRecDepth 100000
set_option maxHeartbeats 4000000
set_option autoImplicit false
/-! Names, figures, integers, members: read by the program. -/
namespace K4
open PySem L2 TL
abbrev sIsName : Stmt := top 8
abbrev sIsFig : Stmt := top 9
abbrev sReadInt : Stmt := top 10
abbrev sReadMem : Stmt := top 22
def letsT : Str := "abcdefghijklmnopqrstuvwxyz"
def figsT : Str := "0123456789"
structure ProgTxt (K : PySem.W.Frag) (mg : Str → Option Value) : Prop where
  isinst : mg "isinstance" = none
  str : mg "str" = none
  len : mg "len" = none
  all : mg "all" = none
  int : mg "int" = none
  zip : mg "zip" = none
  tuple : mg "tuple" = none
  lets : ∃ t, mg "LETTERS" = some (.str letsT t)
  figs : ∃ t, mg "FIGURES" = some (.str figsT t)
  four : ∃ t, mg "LONGEST_NAME" = some (.int 4 t)
  nine : ∃ t, mg "MOST_FIGURES" = some (.int 9 t)
def spIsName : Sp := fun vs H Q _ => ∃ x : Str, vs = [.str x] ∧ x.length ≤ 1000000 ∧ ∀ H', Same H H' → Q (.bl (isNm x)) H'
def spIsFig : Sp := fun vs H Q _ => ∃ x : Str, vs = [.str x, .int 9] ∧ x.length ≤ 1000000 ∧ ∀ H', Same H H' → Q (.bl (isFg (tl x))) H'
def spReadInt : Sp := fun vs H Q _ => ∃ x : Str, vs = [.str x, .int 9] ∧ x.length ≤ 1000000 ∧ ∀ H', Same H H' → Q (if okI x = true then .int (valI x) else .non) H'
def memV (x : Str) (c : Nat) : V := if c = 112 then (if isNm x = true then .str x else .non) else if okI x = true then .int (valI x) else .non
def spReadMem : Sp := fun vs H Q _ => ∃ (x : Str) (c : Nat), vs = [.str x, .str ⟨#[c]⟩] ∧ x.length ≤ 1000000 ∧ ∀ H', Same H H' → Q (memV x c) H'
def rSign : R2 := fun x y H Q => ∃ (c : Nat) (z : Str), x = .str ⟨#[c]⟩ ∧ y = .str z ∧ Q (.bl (decide (c ∈ z.cps.toList))) H
theorem op_sign {X : Cx} : OpR X (compareOp .In) rSign := op_in_sign
section
variable {P : Program} {w : World} {K : PySem.W.Frag} {mg : Str → Option Value} {base : Heap}
def tI (K : PySem.W.Frag) (i : Nat) (T : String) : TE := tCB (rIsi K) (tCons (tVar i) (tCons (tC (.ty T)) tNil))
theorem isi {K : PySem.W.Frag} {σ : L2.St} {H : Hp} {i : Nat} {a T : String} {x : V} {b : Bool} {R : VK} (hs : σ[i]? = some (some x)) (ty : TyOf K H x (.type a)) (k : kitB a T = some b) (go : R (.bl b) H) : tI K i T σ H R :=
  ⟨x, hs, x, .ty T, .type a, .type T, b, rfl, .ty T, .base ty, kit_ty k, go⟩
/-- [sign in l for sign in x] -/
theorem signs_all {g : TG} {te : TE} {vs : List Nat} {σ : L2.St} {H : Hp} {D : Addr} {x : Str} {l : List Nat} {Qd : Hp → Prop} (nD : H D = none) (lx : x.length ≤ 1000000)
    (turn : ∀ (c : Nat) (G : Hp) (R : VK), R (.bl (decide (c ∈ l))) G → g (.str ⟨#[c]⟩) (wipe σ vs) G fun σ2 H2 => wipe σ2 vs = wipe σ vs ∧ te σ2 H2 R)
    (done : ∀ G, Same H G → G D = some (.lst (((tl x).map fun c => decide (c ∈ l)).map V.bl)) → Qd G) :
    ∃ W : Nat → Nat → Hp → Prop, (∃ m, W 0 m (upd H D (.lst []))) ∧ ∀ i m H, W i m H →
      ((Its x).stop i H ∧ Qd H) ∨ ((Its x).go i H ∧ ∃ Nx : Hp → Prop, (∀ H', Nx H' → ∃ m', m' < m ∧ W (i + 1) m' H') ∧ ∀ v H', (Its x).yld i H v H' → g v (wipe σ vs) H' fun σ2 H2 => wipe σ2 vs = wipe σ vs ∧ tYes σ2 H2 fun b H3 =>
        if b = true then te σ2 H3 fun y H4 => ∃ acc, H4 D = some (.lst acc) ∧ acc.length < sizeLine ∧ Nx (upd H4 D (.lst (acc ++ [y]))) else Nx H3) := by
  refine lc_it (walk_str (z := x)) (fun i G => Same H G ∧ G D = some (.lst ((((tl x).take i).map fun c => decide (c ∈ l)).map V.bl))) ⟨same_new nD, upd_same⟩ (fun _ _ _ _ => trivial) (fun i v G G' hi ⟨sG, hD⟩ ⟨e, c, hc, ev⟩ => ?_) (fun G ⟨sG, hD⟩ => ?_)
  · subst e ev
    have hc' : (tl x)[i]? = some c := by simpa using hc
    refine turn c _ (fun y H4 => ∃ acc, H4 D = some (.lst acc) ∧ acc.length < sizeLine ∧ _) ⟨_, hD, ?_, ?_, ?_⟩
    · rw [List.length_map, List.length_map, List.length_take, len_tl, sizeLine_eq]
      omega
    · exact fun b o e => (upd_ne (ne_of_none e nD)).trans (sG b o e)
    · rw [upd_same, take_snoc hc', List.map_append, List.map_append]
      rfl
  · refine done G sG ?_
    have : x.cps.size = (tl x).length := (len_tl x).symm
    rw [this, List.take_length] at hD
    exact hD
theorem all_signs (x : Str) (l : List Nat) : ((tl x).map fun c => decide (c ∈ l)).all id = (tl x).all fun c => decide (c ∈ l) := by
  rw [List.all_map]
  rfl
theorem scIsName : FnScope ["thing", "sign"] ["thing"] (defScope sIsName) := ⟨rfl, rfl, rfl, by decide +kernel, rfl, by decide +kernel, by decide +kernel⟩
theorem ok_isname {f : Addr} {fd : FuncData} (F : Fun K "is_name" "is_name" sIsName f fd) (T : ProgTxt K mg) : FnOk P w K mg base CX0 1 f fd ["thing"] spIsName := by
  refine F.ok scIsName (fun vs H Q E h => ?_) (fun cdv A outer s H vs Q E hr h => ?_)
  · obtain ⟨x, rfl, _⟩ := h
    rfl
  · obtain ⟨x, rfl, lx, go⟩ := h
    obtain ⟨t4, g4⟩ := T.four
    obtain ⟨tl_, gl⟩ := T.lets
    refine ⟨_, pss_cons (ps_if (PW.pt (pw_or (pt_not (pt_val (pe_callB call_isi (by rfl) T.isinst (by decide +kernel) (pa_cons (pv 0) (pa_cons (pe_bltn (v := .ty "str") (u := .type "str") (by rfl) T.str (by decide +kernel) (by exact rfl)) pa_nil)))))
        (pw_or1 (pt_not (pt_chain op_le op_le pe_int (pe_callB call_len_str (by rfl) T.len PySem.boot_len (pa_cons (pv 0) pa_nil)) (pe_glob (v := .int 4) (by rfl) g4 ⟨t4, rfl⟩)))))) (pss_one (ps_ret pe_bl)) pss_nil)
      (pss_one (ps_ret (pe_callB (cr_all rfl) (by rfl) T.all (by decide +kernel) (pa_cons (pe_lc (own := [("sign", 1)]) (g := gName 1) (te := tOp rSign (tVar 1) (tC (.str letsT))) rfl scIsName.nd (pi_str (pv 0)) (blkOk_by (own := [("sign", 1)]) (N := ["thing", "sign"]) (sc := defScope sIsName) (by decide +kernel))
        (fun _ _ _ _ _ => pg_name (i := 1) scIsName.nd rfl (Or.inl rfl)) (fun _ _ _ _ _ => pts_nil) (fun _ _ _ _ _ => pe_cmpR op_sign (pv 1) (pe_glob (v := .str letsT) (by rfl) gl ⟨tl_, rfl⟩) (by rfl))) pa_nil)))), ?_⟩
    refine isi (K := K) (x := .str x) (b := true) rfl (.str x) (by decide +kernel) ⟨_, rfl, ?_⟩
    refine ifN rfl ?_
    refine ⟨_, rfl, x, rfl, by rw [sizeLine_eq]; omega, _, _, rfl, rfl, _, rfl, ?_⟩
    have l0 := len_tl x
    by_cases h1 : 1 ≤ x.length
    · refine ifY (decide_eq_true (by omega)) ⟨_, _, rfl, rfl, _, rfl, ?_⟩
      by_cases h4 : x.length ≤ 4
      · rw [decide_eq_true (show (x.length : Int) ≤ 4 by omega)]
        refine ifN rfl ?_
        refine ⟨_, rfl, x, rfl, fun D nD => ?_⟩
        refine signs_all nD lx (l := lets) (fun c G R q => ⟨rfl, _, rfl, c, letsT, rfl, rfl, q⟩) (fun G sG hD => ?_)
        refine ⟨D, _, rfl, SqL.of hD, ?_⟩
        rw [all_signs]
        have e : isNm x = (tl x).all fun c => decide (c ∈ lets) := by
          unfold isNm
          rw [decide_eq_true (by omega), decide_eq_true (by omega)]
          rfl
        rw [← e]
        exact go G sG
      · rw [decide_eq_false (show ¬ (x.length : Int) ≤ 4 by omega)]
        refine ifY rfl ?_
        have e : isNm x = false := by
          unfold isNm
          rw [decide_eq_false (show ¬ (tl x).length ≤ 4 by omega), Bool.and_false, Bool.false_and]
        have := go H (Same.refl H)
        rw [e] at this
        exact this
    · refine ifN (decide_eq_false (by omega)) ⟨_, rfl, ifY rfl ?_⟩
      have e : isNm x = false := by
        unfold isNm
        rw [decide_eq_false (show ¬ 1 ≤ (tl x).length by omega), Bool.false_and, Bool.false_and]
      have := go H (Same.refl H)
      rw [e] at this
      exact this
theorem scIsFig : FnScope ["text", "most", "sign"] ["text", "most"] (defScope sIsFig) := ⟨rfl, rfl, rfl, by decide +kernel, rfl, by decide +kernel, by decide +kernel⟩
theorem ok_isfig {f : Addr} {fd : FuncData} (F : Fun K "is_figures" "is_figures" sIsFig f fd) (T : ProgTxt K mg) : FnOk P w K mg base CX0 1 f fd ["text", "most"] spIsFig := by
  refine F.ok scIsFig (fun vs H Q E h => ?_) (fun cdv A outer s H vs Q E hr h => ?_)
  · obtain ⟨x, rfl, _⟩ := h
    rfl
  · obtain ⟨x, rfl, lx, go⟩ := h
    obtain ⟨tl_, gl⟩ := T.figs
    refine ⟨_, pss_cons (ps_if (PW.pt (pw_or (pt_not (pt_chain op_le op_le pe_int (pe_callB call_len_str (by rfl) T.len PySem.boot_len (pa_cons (pv 0) pa_nil)) (pv 1)))
        (pw_or1 (pt_cmpR op_eq (pe_ix ix_str (pv 0) pe_int (fun _ _ => rfl)) pe_str (nomark _))))) (pss_one (ps_ret pe_bl)) pss_nil)
      (pss_one (ps_ret (pe_callB (cr_all rfl) (by rfl) T.all (by decide +kernel) (pa_cons (pe_lc (own := [("sign", 2)]) (g := gName 2) (te := tOp rSign (tVar 2) (tC (.str figsT))) rfl scIsFig.nd (pi_str (pv 0)) (blkOk_by (own := [("sign", 2)]) (N := ["text", "most", "sign"]) (sc := defScope sIsFig) (by decide +kernel))
        (fun _ _ _ _ _ => pg_name (i := 2) scIsFig.nd rfl (Or.inl rfl)) (fun _ _ _ _ _ => pts_nil) (fun _ _ _ _ _ => pe_cmpR op_sign (pv 2) (pe_glob (v := .str figsT) (by rfl) gl ⟨tl_, rfl⟩) (by rfl))) pa_nil)))), ?_⟩
    refine ⟨_, rfl, x, rfl, by rw [sizeLine_eq]; omega, _, _, rfl, rfl, _, rfl, ?_⟩
    have l0 := len_tl x
    have bad : isFg (tl x) = false → Q (.bl false) H := fun e => by
      have := go H (Same.refl H)
      rw [e] at this
      exact this
    by_cases h1 : 1 ≤ x.length
    · refine ifY (decide_eq_true (by omega)) ⟨_, rfl, _, _, rfl, rfl, _, rfl, ?_⟩
      by_cases h4 : x.length ≤ 9
      · rw [decide_eq_true (show (x.length : Int) ≤ 9 by omega)]
        refine ifN rfl ?_
        obtain ⟨c, r, ec⟩ : ∃ c r, tl x = c :: r := by
          cases q : tl x with
          | nil => rw [q] at l0; simp at l0; omega
          | cons c r => exact ⟨c, r, rfl⟩
        refine ⟨_, rfl, _, _, c, rfl, rfl, by rw [sizeLine_eq]; omega, (show atI _ ((0 : Nat) : Int) = some c from atI_nat (by rw [show x.cps.toList = c :: r from ec]; rfl)), rfl, _, rfl, ?_⟩
        by_cases h0 : c = 48
        · subst h0
          refine ifY (by decide +kernel) (bad ?_)
          unfold isFg
          rw [ec]
          simp
        · refine ifN (decide_eq_false (fun z => h0 ?_)) ?_
          · have z2 : (⟨#[c]⟩ : Str) = "0" := V.str.inj z
            have z3 := congrArg (fun y : Str => y.cps.toList) z2
            have z4 : [c] = [48] := z3.trans (by decide +kernel)
            exact (List.cons.inj z4).1
          refine ⟨_, rfl, x, rfl, fun D nD => ?_⟩
          refine signs_all nD lx (l := figs) (fun c G R q => ⟨rfl, _, rfl, c, figsT, rfl, rfl, q⟩) (fun G sG hD => ?_)
          refine ⟨D, _, rfl, SqL.of hD, ?_⟩
          rw [all_signs]
          have e : isFg (tl x) = (tl x).all fun c => decide (c ∈ figs) := by
            unfold isFg
            rw [decide_eq_true (show 1 ≤ (tl x).length by omega), decide_eq_true (show (tl x).length ≤ 9 by omega), decide_eq_true (show (tl x).head? ≠ some 48 by rw [ec]; simp [h0]), Bool.and_true]
            rfl
          rw [← e]
          exact go G sG
      · rw [decide_eq_false (show ¬ (x.length : Int) ≤ 9 by omega)]
        refine ifY rfl (bad ?_)
        unfold isFg
        rw [decide_eq_false (show ¬ (tl x).length ≤ 9 by omega), Bool.and_false, Bool.false_and, Bool.false_and]
    · refine ifN (decide_eq_false (by omega)) ⟨_, rfl, ifY rfl (bad ?_)⟩
      unfold isFg
      rw [decide_eq_false (show ¬ 1 ≤ (tl x).length by omega), Bool.false_and, Bool.false_and, Bool.false_and]
end
end K4

set_option Elab.async false
set_option linter.all false
set_option maxRecDepth 100000
set_option maxHeartbeats 4000000
set_option autoImplicit false
/-! Integers, members, words; texts of members. -/
namespace K4
open PySem L2 TL
abbrev sText : Stmt := top 19
abbrev sWords : Stmt := top 20
theorem str_eq {x y : Str} : (V.str x = V.str y) ↔ tl x = tl y := ⟨fun h => congrArg (fun z : Str => tl z) (V.str.inj h), fun h => congrArg V.str (ext_tl h)⟩
theorem dec_str {x y : Str} {p : Prop} [Decidable p] (h : tl x = tl y ↔ p) : decide (V.str x = V.str y) = decide p := decide_eq_decide.mpr (str_eq.trans h)
structure IntTxt (P : Program) (w : World) (K : PySem.W.Frag) (mg : Str → Option Value) (base : Heap) (fF fN fI : Addr) (dF dN dI : FuncData) : Prop where
  okF : FnOk P w K mg base CX0 1 fF dF ["text", "most"] spIsFig
  bF : Binds K dF ["text", "most"] []
  gF : mg "is_figures" = some (.ref fF)
  kF : PySem.W.keepIn K (.ref fF) = true
  okN : FnOk P w K mg base CX0 1 fN dN ["thing"] spIsName
  bN : Binds K dN ["thing"] []
  gN : mg "is_name" = some (.ref fN)
  kN : PySem.W.keepIn K (.ref fN) = true
  bI : Binds K dI ["text", "most"] []
  gI : mg "read_integer" = some (.ref fI)
  kI : PySem.W.keepIn K (.ref fI) = true
section
variable {P : Program} {w : World} {K : PySem.W.Frag} {mg : Str → Option Value} {base : Heap} {fF fN fI : Addr} {dF dN dI : FuncData}
theorem scReadInt : FnScope ["text", "most", "size"] ["text", "most"] (defScope sReadInt) := ⟨rfl, rfl, rfl, by decide +kernel, rfl, by decide +kernel, by decide +kernel⟩
theorem tl0 : tl ("0" : Str) = [48] := by decide +kernel
theorem ok_readint {f : Addr} {fd : FuncData} (F : Fun K "read_integer" "read_integer" sReadInt f fd) (T : ProgTxt K mg) (U : IntTxt P w K mg base fF fN fI dF dN dI) : FnOk P w K mg base CX0 2 f fd ["text", "most"] spReadInt := by
  refine F.ok scReadInt (fun vs H Q E h => ?_) (fun cdv A outer s H vs Q E hr h => ?_)
  · obtain ⟨x, rfl, _⟩ := h
    rfl
  · obtain ⟨x, rfl, lx, go⟩ := h
    refine ⟨_, pss_cons (ps_if (pt_cmpR op_eq (pv 0) pe_str (nomark _)) (pss_one (ps_ret pe_int)) pss_nil)
      (pss_cons (ps_set (i := 2) scReadInt.nd rfl (Or.inl rfl) (pe_ifExp (pt_val (pe_m1 PySem.F.slot_str_startswith PySem.F.type_str_startswith mt_startswith (pv 0) pe_str)) (pe_slice sl_str (pv 0) (po_some pe_int) po_none) (pv 0)))
      (pss_cons (ps_if (pt_not (pt_val (pe_call U.okF hr rfl U.gF U.kF U.bF .nil pass0 (pa_cons (pv 2) (pa_cons (pv 1) pa_nil))))) (pss_one (ps_ret pe_non)) pss_nil)
      (pss_one (ps_ret (pe_callTy call_int_str (by rfl) T.int (by decide +kernel) (pa_cons (pv 0) pa_nil)))))), ?_⟩
    refine ⟨_, rfl, rfl, _, rfl, ?_⟩
    rw [dec_str (p := tl x = [48]) (by rw [tl0])]
    refine ite2 (fun h => ?_) (fun h => ?_)
    · have e := of_decide_eq_true h
      have ok : okI x = true := by
        unfold okI
        rw [decide_eq_true e, Bool.true_or]
      have v0 : valI x = 0 := by
        unfold valI
        rw [intText_digits (x := x) (by show NumText.AllDigits (tl x); rw [e]; intro c hc; rw [List.mem_singleton.mp hc]; omega) (by show tl x ≠ []; rw [e]; simp) (by rw [← len_tl, e]; decide)]
        show ((NumText.digitsVal (tl x) : Nat) : Int) = 0
        rw [e]
        rfl
      have := go H (Same.refl H)
      rw [if_pos ok, v0] at this
      exact this
    · have ne : ¬ tl x = [48] := fun q => h (decide_eq_true q)
      have lb : ∃ y : Str, tl y = body (tl x) ∧ y.length ≤ 1000000 ∧ (if (tl x).head? = some 45 then y = cutS x (some 1) none else y = x) := by
        unfold body
        by_cases m : (tl x).head? = some 45
        · rw [if_pos m]
          exact ⟨_, tl_cut1 x, Nat.le_trans (cutS_length _ _ _) lx, by rw [if_pos m]⟩
        · rw [if_neg m]
          exact ⟨x, rfl, lx, by rw [if_neg m]⟩
      obtain ⟨y, ey, ly, hy⟩ := lb
      have ok : okI x = isFg (tl y) := by
        unfold okI
        rw [decide_eq_false ne, Bool.false_or, ey]
      refine ⟨_, rfl, ⟨_, rfl⟩, _, _, rfl, rfl, _, rfl, ?_⟩
      rw [starts_minus]
      have fin : ∀ σ : L2.St, σ = [some (.str x), some (.int 9), some (.str y)] → (tSeq (tIfS (tNot (tTest (tCall spIsFig [] E0 (tCons (tVar 2) (tCons (tVar 1) tNil))))) (tRet (tC .non)) tNext)
          (tRet (tCB (fun xs H Q => ∃ a n, xs = [.str a] ∧ PySem.intText? a = some n ∧ a.length ≤ 640 ∧ Q (.int n) H) (tCons (tVar 0) tNil)))) { nx := fun _ H' => Q .non H', rt := Q } σ H := by
        rintro σ rfl
        refine ⟨_, rfl, _, rfl, y, rfl, ly, fun G sG => ⟨_, rfl, ?_⟩⟩
        cases g : isFg (tl y) with
        | false =>
          rw [g] at ok
          have := go G sG
          rw [ok] at this
          exact this
        | true =>
          rw [g] at ok
          obtain ⟨e1, e2⟩ := okI_int ok
          have := go G sG
          rw [if_pos ok] at this
          exact ⟨_, rfl, x, _, rfl, e1, by omega, this⟩
      by_cases m : (tl x).head? = some 45
      · rw [if_pos m] at hy
        refine ifY (decide_eq_true m) ⟨_, rfl, _, rfl, x, rfl, by rw [sizeLine_eq]; omega, ?_⟩
        rw [← hy]
        exact fin _ rfl
      · rw [if_neg m] at hy
        refine ifN (decide_eq_false m) ⟨_, rfl, ?_⟩
        rw [hy] at fin
        exact fin _ rfl
end
end K4

set_option Elab.async false
set_option linter.all false
set_option maxRecDepth 100000
set_option maxHeartbeats 4000000
set_option autoImplicit false
/-! Members, texts of members, words. -/
namespace K4
open PySem L2 TL
section
variable {P : Program} {w : World} {K : PySem.W.Frag} {mg : Str → Option Value} {base : Heap} {fF fN fI : Addr} {dF dN dI : FuncData}
theorem scReadMem : FnScope ["word", "kind"] ["word", "kind"] (defScope sReadMem) := ⟨rfl, rfl, rfl, by decide +kernel, rfl, by decide +kernel, by decide +kernel⟩
theorem tlp : tl ("p" : Str) = [112] := by decide +kernel
theorem ok_readmem {f : Addr} {fd : FuncData} (F : Fun K "_read_member" "_read_member" sReadMem f fd) (T : ProgTxt K mg) (U : IntTxt P w K mg base fF fN fI dF dN dI) (GI : FnOk P w K mg base CX0 2 fI dI ["text", "most"] spReadInt) :
    FnOk P w K mg base CX0 3 f fd ["word", "kind"] spReadMem := by
  refine F.ok scReadMem (fun vs H Q E h => ?_) (fun cdv A outer s H vs Q E hr h => ?_)
  · obtain ⟨x, c, rfl, _⟩ := h
    rfl
  · obtain ⟨x, c, rfl, lx, go⟩ := h
    obtain ⟨t9, g9⟩ := T.nine
    refine ⟨_, pss_cons (ps_if (pt_cmpR op_ne (pv 1) pe_str (nomark _)) (pss_one (ps_ret (pe_call GI hr rfl U.gI U.kI U.bI .nil pass0 (pa_cons (pv 0) (pa_cons (pe_glob (v := .int 9) (by rfl) g9 ⟨t9, rfl⟩) pa_nil))))) pss_nil)
      (pss_one (ps_ret (pe_ifExp (pt_val (pe_call U.okN (hr.mono (by decide)) rfl U.gN U.kN U.bN .nil pass0 (pa_cons (pv 0) pa_nil))) (pv 0) pe_non))), ?_⟩
    refine ⟨_, rfl, rfl, _, rfl, ?_⟩
    rw [dec_str (p := c = 112) (by rw [tlp]; show [c] = [112] ↔ _; simp)]
    by_cases h : c = 112
    · rw [decide_eq_true h]
      refine ifN rfl ?_
      refine ⟨_, rfl, x, rfl, lx, fun G sG => ⟨_, rfl, ?_⟩⟩
      have := go G sG
      unfold memV at this
      rw [if_pos h] at this
      cases e : isNm x with
      | true =>
        rw [if_pos e] at this
        exact ⟨_, rfl, this⟩
      | false =>
        rw [if_neg (by rw [e]; exact Bool.false_ne_true)] at this
        exact this
    · rw [decide_eq_false h]
      refine ifY rfl ?_
      unfold memV at go
      rw [if_neg h] at go
      exact ⟨_, rfl, x, rfl, lx, go⟩
/-- members and their texts -/
inductive Shows : List V → List Str → Prop
  | nil : Shows [] []
  | str {xs : List V} {ys : List Str} (x : Str) (h : Shows xs ys) : Shows (.str x :: xs) (x :: ys)
  | int {xs : List V} {ys : List Str} (i : Int) (hi : i.natAbs.log2 < 1920) (h : Shows xs ys) : Shows (.int i :: xs) (Str.ofString (toString i) :: ys)
theorem Shows.len {xs : List V} {ys : List Str} (h : Shows xs ys) : xs.length = ys.length := by
  induction h with
  | nil => rfl
  | str x _ ih => rw [List.length_cons, List.length_cons, ih]
  | int i _ _ ih => rw [List.length_cons, List.length_cons, ih]
theorem Shows.at {xs : List V} {ys : List Str} (h : Shows xs ys) : ∀ {i : Nat} {v : V}, xs[i]? = some v → ∃ y, ys[i]? = some y ∧ (v = .str y ∨ ∃ n : Int, v = .int n ∧ n.natAbs.log2 < 1920 ∧ y = Str.ofString (toString n)) := by
  induction h with
  | nil => intro i v h; simp at h
  | str x _ ih =>
    intro i v h
    cases i with
    | zero => simp at h; exact ⟨x, rfl, .inl h.symm⟩
    | succ i => exact ih (by simpa using h)
  | int n hn _ ih =>
    intro i v h
    cases i with
    | zero => simp at h; exact ⟨_, rfl, .inr ⟨n, h.symm, hn, rfl⟩⟩
    | succ i => exact ih (by simpa using h)
theorem small_log {i : Int} (h : -(10 ^ 9) < i) (h9 : i < 10 ^ 9) : i.natAbs.log2 < 1920 := by
  have e : (2 : Nat) ^ 64 = 18446744073709551616 := by decide
  have : i.natAbs.log2 < 64 := PySem.Flt.log2_lt_of (by decide) (by omega)
  omega
theorem Shows.app {xs xs' : List V} {ys ys' : List Str} (h : Shows xs ys) (h' : Shows xs' ys') : Shows (xs ++ xs') (ys ++ ys') := by
  induction h with
  | nil => exact h'
  | str x _ ih => exact .str x ih
  | int n hn _ ih => exact .int n hn ih
theorem shows_strs : ∀ ns : List Str, Shows (ns.map V.str) ns
  | [] => .nil
  | x :: ns => .str x (shows_strs ns)
theorem shows_ints : ∀ is : List Int, (∀ i ∈ is, -(10 ^ 9) < i ∧ i < 10 ^ 9) → Shows (is.map V.int) (is.map fun i => Str.ofString (toString i))
  | [], _ => .nil
  | i :: is, h => .int i (small_log (h i List.mem_cons_self).1 (h i List.mem_cons_self).2) (shows_ints is fun j hj => h j (List.mem_cons_of_mem _ hj))
theorem Thing.shows {b : Bool} {z : Str} {ns : List Str} {is : List Int} (T : Thing b z ns is) : Shows (vals z ns is) (words z ns is) := .str z ((shows_strs ns).app (shows_ints is T.im))
/-- the text of a row of members -/
def spText (K : PySem.W.Frag) : Sp := fun vs H Q _ => ∃ (a : Addr) (xs : List V) (ys : List Str), vs = [.ref a] ∧ SqT K H a xs ∧ Shows xs ys ∧ ys.length ≤ 1000 ∧ (ys.map (·.length)).sum ≤ 1000000 ∧ ∀ H', Same H H' → Q (.str (Txt.join " " ys)) H'
theorem seqT {H H' : Hp} {a : Addr} {xs : List V} (e : Same H H') (h : SqT K H a xs) : SqT K H' a xs := by
  rcases h with (h | ⟨o, h⟩) | h
  · exact .inl (.inl (e _ _ h))
  · exact .inl (.inr ⟨o, e _ _ h⟩)
  · exact .inr h
def rStr : List V → Hp → VK → Prop := fun xs H Q => (∃ i, xs = [.int i] ∧ i.natAbs.log2 < 1920 ∧ Q (.str (toString i)) H) ∨ (∃ a, xs = [.str a] ∧ Q (.str a) H)
theorem call_str {X : Cx} : CallR X (.type "str") rStr := CallR.or call_str_int SkE.call_str_str
theorem scText : FnScope ["members", "member"] ["members"] (defScope sText) := ⟨rfl, rfl, rfl, by decide +kernel, rfl, by decide +kernel, by decide +kernel⟩
theorem text_read {σ : L2.St} {H : Hp} {Qd : Hp → Prop} {a : Addr} {xs : List V} {ys : List Str} {vs : List Nat} {g : TG} {te : TE} (hq : SqT K H a xs) (sh : Shows xs ys) (l : ys.length ≤ 1000) {D : Addr} (nD : H D = none) (go : ∀ (G : Hp), Same H G → G D = some (.lst (ys.map V.str)) → Qd G)
    (turn : ∀ (v : V) (G : Hp) (R : VK), rStr [v] G R → g v (wipe σ vs) G fun σ2 H2 => wipe σ2 vs = wipe σ vs ∧ te σ2 H2 R) :
    ∃ W : Nat → Nat → Hp → Prop, (∃ m, W 0 m (upd H D (.lst []))) ∧ ∀ i m H, W i m H →
      ((Itt K a).stop i H ∧ Qd H) ∨ ((Itt K a).go i H ∧ ∃ Nx : Hp → Prop, (∀ H', Nx H' → ∃ m', m' < m ∧ W (i + 1) m' H') ∧ ∀ v H', (Itt K a).yld i H v H' → g v (wipe σ vs) H' fun σ2 H2 => wipe σ2 vs = wipe σ vs ∧ tYes σ2 H2 fun b H3 =>
        if b = true then te σ2 H3 fun y H4 => ∃ acc, H4 D = some (.lst acc) ∧ acc.length < sizeLine ∧ Nx (upd H4 D (.lst (acc ++ [y]))) else Nx H3) := by
  have le := sh.len
  refine lc_it (walk_tup (K := K) (a := a) (xs := xs)) (fun i G => Same H G ∧ G D = some (.lst ((ys.take i).map V.str))) ⟨same_new nD, upd_same⟩ (fun _ G _ h => seqT h.1 hq) (fun i v G G' hi ⟨sG, hD⟩ ⟨e, hv⟩ => ?_) (fun G ⟨sG, hD⟩ => ?_)
  · subst e
    obtain ⟨y, hy, hvy⟩ := sh.at hv
    have li : i < ys.length := (List.getElem?_eq_some_iff.mp hy).1
    have fin : ∃ acc, G' D = some (.lst acc) ∧ acc.length < sizeLine ∧ (Same H (upd G' D (.lst (acc ++ [.str y]))) ∧ upd G' D (.lst (acc ++ [.str y])) D = some (.lst ((ys.take (i + 1)).map V.str))) := by
      refine ⟨_, hD, ?_, fun b o e => (upd_ne (ne_of_none e nD)).trans (sG b o e), ?_⟩
      · rw [List.length_map, List.length_take, sizeLine_eq]
        omega
      · rw [upd_same, take_snoc hy, List.map_append]
        rfl
    refine turn v G' (fun y H4 => ∃ acc, H4 D = some (.lst acc) ∧ acc.length < sizeLine ∧ _) ?_
    rcases hvy with rfl | ⟨n, rfl, hn, rfl⟩
    · exact .inr ⟨y, rfl, fin⟩
    · exact .inl ⟨n, rfl, hn, fin⟩
  · rw [le, List.take_length] at hD
    exact go G sG hD
theorem ok_text {f : Addr} {fd : FuncData} (F : Fun K "_text" "_text" sText f fd) (T : ProgTxt K mg) : FnOk P w K mg base CX0 1 f fd ["members"] (spText K) := by
  refine F.ok scText (fun vs H Q E h => ?_) (fun cdv A outer s H vs Q E hr h => ?_)
  · obtain ⟨a, xs, ys, rfl, _⟩ := h
    rfl
  · obtain ⟨a, xs, ys, rfl, hq, sh, l, ls, go⟩ := h
    refine ⟨_, pss_one (ps_ret (pe_join pe_str (pe_lc (own := [("member", 1)]) (g := gName 1) (te := tCB rStr (tCons (tVar 1) tNil)) rfl scText.nd (pi_tup (pv 0)) (blkOk_by (own := [("member", 1)]) (N := ["members", "member"]) (sc := defScope sText) (by decide +kernel))
        (fun _ _ _ _ _ => pg_name (i := 1) scText.nd rfl (Or.inl rfl)) (fun _ _ _ _ _ => pts_nil) (fun _ _ _ _ _ => pe_callTy call_str (by rfl) T.str (by decide +kernel) (pa_cons (pv 1) pa_nil))))), ?_⟩
    refine ⟨⟨_, rfl⟩, _, rfl, a, rfl, ⟨_, hq⟩, fun D nD => ?_⟩
    refine text_read hq sh l nD (fun G sG hD => ?_) (fun v G R q => ⟨rfl, _, rfl, q⟩)
    refine ⟨_, D, ys, rfl, rfl, .inl (SqL.of hD), ?_, go G sG⟩
    rw [show ((" " : Str).length) = 1 from by decide +kernel]
    omega
end
end K4

set_option Elab.async false
set_option linter.all false
set_option maxRecDepth 100000
set_option maxHeartbeats 4000000
set_option autoImplicit false
/-! Words, and what they tell by a form. -/
namespace K4
open PySem L2 TL
abbrev sRead : Stmt := top 21
def NotStr (K : PySem.W.Frag) (H : Hp) (x : V) : Prop := ∃ a : String, TyOf K H x (.type a) ∧ kitB a "str" = some false
def spWords (K : PySem.W.Frag) (C : Addr) : Sp := fun vs H Q E => ∃ x : V, vs = [x] ∧ ((∃ y : Str, x = .str y ∧ y.length ≤ 1000000 ∧ ∀ (p : Addr) (G : Hp), Same H G → H p = none → G p = some (.lst ((Txt.split y " ").map V.str)) → Q (.ref p) G) ∨ (NotStr K H x ∧ Raises C H E))
def nmV (x : Str) : V := if isNm x = true then .str x else .non
def nuV (x : Str) : V := if okI x = true then .int (valI x) else .non
/-- what words tell by a form of n names and k integers -/
def told (z : Str) (r : List Str) (n k : Nat) : Option (List V) := if r.length = n + k ∧ ((r.take n).all isNm = true ∧ (r.drop n).all okI = true) then some (.str z :: ((r.take n).map V.str ++ (r.drop n).map fun x => V.int (valI x))) else none
def spRead (C : Addr) : Sp := fun vs H Q E => ∃ (a : Addr) (f z : Str) (r : List Str) (n k : Nat) (l : List Nat), vs = [.ref a, .str f] ∧ H a = some (.lst ((z :: r).map V.str)) ∧ tl f = List.replicate n 112 ++ l ∧ (∀ c ∈ l, c ≠ 112) ∧ l.length = k ∧ 1 ≤ n ∧ n + k ≤ 100 ∧
  (∀ y ∈ r, y.length ≤ 1000000) ∧ r.length ≤ 1000000 ∧ (∀ us, told z r n k = some us → ∀ (p : Addr) (G : Hp), Same H G → H p = none → G p = some (.tup us) → Q (.ref p) G) ∧ (told z r n k = none → Raises C H E)
theorem memV_name (x : Str) : memV x 112 = nmV x := by unfold memV nmV; rw [if_pos rfl]
theorem memV_num (x : Str) {c : Nat} (h : c ≠ 112) : memV x c = nuV x := by unfold memV nuV; rw [if_neg h]
theorem mems_num : ∀ {r : List Str} {l : List Nat}, r.length = l.length → (∀ c ∈ l, c ≠ 112) → List.zipWith memV r l = r.map nuV
  | [], [], _, _ => rfl
  | x :: r, c :: l, h, f => by
    rw [List.zipWith_cons_cons, List.map_cons, memV_num x (f c List.mem_cons_self), mems_num (by simpa using h) fun d hd => f d (List.mem_cons_of_mem _ hd)]
  | [], c :: l, h, _ => by simp at h
  | x :: r, [], h, _ => by simp at h
theorem mems_eq : ∀ {n : Nat} {r : List Str} {l : List Nat}, r.length = n + l.length → (∀ c ∈ l, c ≠ 112) → List.zipWith memV r (List.replicate n 112 ++ l) = (r.take n).map nmV ++ (r.drop n).map nuV
  | 0, r, l, h, f => by
    rw [List.replicate_zero, List.nil_append, mems_num (by omega) f]
    rfl
  | n + 1, [], l, h, f => by simp at h; omega
  | n + 1, x :: r, l, h, f => by
    rw [List.replicate_succ, List.cons_append, List.zipWith_cons_cons, memV_name, mems_eq (by simp at h; omega) f]
    rfl
theorem none_in (xs ys : List Str) : inV .non (xs.map nmV ++ ys.map nuV) = !(xs.all isNm && ys.all okI) := by
  have e1 : ∀ l : List Str, inV .non (l.map nmV) = !l.all isNm := fun l => by
    unfold inV
    induction l with
    | nil => rfl
    | cons x l ih =>
      rw [List.map_cons, List.any_cons, ih, List.all_cons, Bool.not_and]
      congr 1
      unfold nmV
      cases isNm x <;> rfl
  have e2 : ∀ l : List Str, inV .non (l.map nuV) = !l.all okI := fun l => by
    unfold inV
    induction l with
    | nil => rfl
    | cons x l ih =>
      rw [List.map_cons, List.any_cons, ih, List.all_cons, Bool.not_and]
      congr 1
      unfold nuV
      cases okI x <;> rfl
  show List.any _ _ = _
  have h1 := e1 xs
  have h2 := e2 ys
  unfold inV at h1 h2
  rw [List.any_append, Bool.not_and, h1, h2]
theorem names_all {xs : List Str} (h : xs.all isNm = true) : xs.map nmV = xs.map V.str := List.map_congr_left fun x hx => by
  unfold nmV
  rw [if_pos (List.all_eq_true.mp h x hx)]
theorem nums_all {xs : List Str} (h : xs.all okI = true) : xs.map nuV = xs.map fun x => V.int (valI x) := List.map_congr_left fun x hx => by
  unfold nuV
  rw [if_pos (List.all_eq_true.mp h x hx)]
theorem flat_mem (x : Str) (c : Nat) : flatV (memV x c) = true := by
  unfold memV
  split
  · split <;> rfl
  · split <;> rfl
theorem cut_tail (v : V) (vs : List V) : cutV (v :: vs) (some 1) none = vs := by
  unfold cutV
  rw [show HT.sIx (v :: vs).length 0 (some 1) = min 1 (v :: vs).length from HT.sIx_nat _ _ 1, HT.sIx_none]
  simp
section
variable {P : Program} {w : World} {K : PySem.W.Frag} {mg : Str → Option Value} {base : Heap} {B C D fI : Addr} {dI : FuncData}
theorem scWords : FnScope ["text"] ["text"] (defScope sWords) := ⟨rfl, rfl, rfl, by decide +kernel, rfl, by decide +kernel, by decide +kernel⟩
theorem ok_words {f : Addr} {fd : FuncData} (F : Fun K "_words" "_words" sWords f fd) (T : ProgTxt K mg) (U : ValTxt P w K mg base B C D fI dI) : FnOk P w K mg base (L2N.CX P w) 3 f fd ["text"] (spWords K C) := by
  refine okN F scWords (fun vs H Q E h => ?_) (fun cdv A outer s H vs Q E hr h => ?_)
  · obtain ⟨x, rfl, _⟩ := h
    rfl
  · obtain ⟨x, rfl, h⟩ := h
    refine ⟨_, pss_cons (ps_if (pt_not (pt_val (pe_callB call_isi (by rfl) T.isinst (by decide +kernel) (pa_cons (pv 0) (pa_cons (pe_bltn (v := .ty "str") (u := .type "str") (by rfl) T.str (by decide +kernel) (by exact rfl)) pa_nil)))))
        (pss_one (L2N.ps_raise rfl (L2N.takes_of rfl rfl rfl rfl) (pmk_err U.err U.iC U.tI U.ini hr U.bd pass0 rfl U.gC (pa_cons pe_int pa_nil)))) pss_nil)
      (pss_one (ps_ret (pe_split (pv 0) pe_str))), ?_⟩
    rcases h with ⟨y, rfl, ly, go⟩ | ⟨⟨a, ty, k⟩, go⟩
    · refine isi (K := K) (x := .str y) (b := true) rfl (.str y) (by decide +kernel) ⟨_, rfl, ifN rfl ?_⟩
      refine ⟨_, rfl, ⟨_, rfl⟩, _, _, rfl, rfl, by decide +kernel, by rw [sizeLine_eq]; omega, fun p np => ?_⟩
      exact go p _ (same_new np) np upd_same
    · refine isi (K := K) (b := false) rfl ty k ⟨_, rfl, ifY rfl ?_⟩
      show tErr C (spIni K C) (tCons (tC (.int 0)) tNil) _ H _
      exact err_read U go
structure MemTxt (P : Program) (w : World) (K : PySem.W.Frag) (mg : Str → Option Value) (base : Heap) (fM : Addr) (dM : FuncData) : Prop where
  ok : FnOk P w K mg base CX0 3 fM dM ["word", "kind"] spReadMem
  b : Binds K dM ["word", "kind"] []
  g : mg "_read_member" = some (.ref fM)
  k : PySem.W.keepIn K (.ref fM) = true
variable {fM : Addr} {dM : FuncData}
theorem scRead : FnScope ["words", "form", "members", "word", "kind"] ["words", "form"] (defScope sRead) := ⟨rfl, rfl, rfl, by decide +kernel, rfl, by decide +kernel, by decide +kernel⟩
theorem ok_read {f : Addr} {fd : FuncData} (F : Fun K "_read" "_read" sRead f fd) (T : ProgTxt K mg) (U : ValTxt P w K mg base B C D fI dI) (M : MemTxt P w K mg base fM dM) : FnOk P w K mg base (L2N.CX P w) 4 f fd ["words", "form"] (spRead C) := by
  refine okN F scRead (fun vs H Q E h => ?_) (fun cdv A outer s H vs Q E hr h => ?_)
  · obtain ⟨a, f, z, r, n, k, l, rfl, _⟩ := h
    rfl
  · obtain ⟨a, f, z, r, n, k, l, rfl, ha, ef, fl, rfl, n1, nk, ly, lr, yes, no⟩ := h
    have h2 : Room 2 _ := hr.mono (by decide)
    refine ⟨_, pss_cons (ps_if (pt_cmpR op_ne (pe_callB call_len_seq (by rfl) T.len PySem.boot_len (pa_cons (pv 0) pa_nil)) (pe_op op_add pe_int (pe_callB call_len_str (by rfl) T.len PySem.boot_len (pa_cons (pv 1) pa_nil))) (nomark _))
        (pss_one (L2N.ps_raise rfl (L2N.takes_of rfl rfl rfl rfl) (pmk_err U.err U.iC U.tI U.ini h2 U.bd pass0 rfl U.gC (pa_cons pe_int pa_nil)))) pss_nil)
      (pss_cons (ps_setLc (i := 2) (own := [("word", 3), ("kind", 4)]) (g := gTup K 2 (gCons (gName 3) (gCons (gName 4) gNil))) rfl scRead.nd rfl rfl (sw_true rfl rfl rfl (by decide +kernel)) (pi_zipS (by rfl) T.zip (pa_cons (pe_slice sl_list (pv 0) (po_some pe_int) po_none) (pa_cons (pv 1) pa_nil)))
          (blkOk_by (own := [("word", 3), ("kind", 4)]) (N := ["words", "form", "members", "word", "kind"]) (sc := defScope sRead) (by decide +kernel))
          (fun _ _ _ _ _ => pg_tup rfl (pgs_cons (pg_name (i := 3) scRead.nd rfl (Or.inl rfl)) (pgs_cons (pg_name (i := 4) scRead.nd rfl (Or.inl rfl)) pgs_nil))) (fun _ _ _ _ _ => pts_nil)
          (fun _ _ _ _ _ => pe_call M.ok hr (by rfl) M.g M.k M.b .nil pass0 (pa_cons (pv 3) (pa_cons (pv 4) pa_nil))))
      (pss_cons (ps_if (pt_cmpR op_in_seq pe_non (pv 2) (by rfl)) (pss_one (L2N.ps_raise rfl (L2N.takes_of rfl rfl rfl rfl) (pmk_err U.err U.iC U.tI U.ini h2 U.bd pass0 rfl U.gC (pa_cons pe_int pa_nil)))) pss_nil)
      (pss_one (ps_ret (pe_op op_catT (pe_tup (pa_cons (pe_ix ix_list (pv 0) pe_int (fun _ _ => rfl)) pa_nil)) (pe_callTy call_tuple_of (by rfl) T.tuple (by decide +kernel) (pa_cons (pv 2) pa_nil))))))), ?_⟩
    have lf : f.length = n + l.length := by rw [← len_tl, ef, List.length_append, List.length_replicate]
    refine ⟨_, rfl, a, _, rfl, .inl (SqL.of ha), _, rfl, f, rfl, by rw [sizeLine_eq]; omega, _, _, rfl, rfl, rfl, _, rfl, ?_⟩
    by_cases hl : r.length = n + l.length
    · refine ifN ?_ ?_
      · rw [decide_eq_true]
        · rfl
        · rw [List.length_map, List.length_cons]
          congr 1
          omega
      refine ⟨_, rfl, _, rfl, a, _, rfl, SqL.of ha, fun p np => ?_⟩
      have ep : cutV ((z :: r).map V.str) (some 1) none = r.map V.str := cut_tail _ _
      rw [ep]
      have s1 : Same H (upd H p (.lst (r.map V.str))) := same_new np
      have p1 : upd H p (.lst (r.map V.str)) p = some (.lst (r.map V.str)) := upd_same
      generalize upd H p (.lst (r.map V.str)) = G1 at s1 p1 ⊢
      refine ⟨_, rfl, p, f, _, rfl, SqL.of p1, fun L nL => ?_⟩
      have Lp : L ≠ p := fun z => by rw [z, p1] at nL; cases nL
      have zl : f.cps.size = (tl f).length := (len_tl f).symm
      have zm : (List.zipWith memV r (tl f)).length = n + l.length := by
        rw [List.length_zipWith, hl, len_tl, lf]
        omega
      refine lc_it (walk_zipS (K := K) (a := p) (z := f) (xs := r.map V.str) (n := n + l.length) (by rw [List.length_map, hl, show f.cps.size = n + l.length from lf]; omega)) (fun i G => Same G1 G ∧ G L = some (.lst ((List.zipWith memV r (tl f)).take i)))
        ⟨same_new nL, upd_same⟩ (fun _ G _ h => h.1.seq (SqL.of p1)) (fun i v G G' hi ⟨sG, hL⟩ ⟨T, x, c, ev, nT, eG, hx, hc⟩ => ?_) (fun G ⟨sG, hL⟩ => ?_)
      · subst ev eG
        obtain ⟨y, hy, rfl⟩ : ∃ y, r[i]? = some y ∧ x = V.str y := by
          rw [List.getElem?_map] at hx
          cases e : r[i]? with
          | none => rw [e] at hx; cases hx
          | some y => rw [e] at hx; exact ⟨y, rfl, (Option.some.inj hx).symm⟩
        have hc' : (tl f)[i]? = some c := by simpa using hc
        have hz : (List.zipWith memV r (tl f))[i]? = some (memV y c) := by rw [List.getElem?_zipWith, hy, hc']
        have LT : L ≠ T := ne_of_none hL nT
        refine ⟨T, _, rfl, SqT.of upd_same, rfl, _, _, rfl, _, _, rfl, rfl, rfl, _, rfl, _, rfl, y, c, rfl, ly y (List.mem_of_getElem? hy), fun G3 s3 => ?_⟩
        have hL3 := s3 _ _ ((upd_ne LT).trans hL)
        refine ⟨_, hL3, ?_, fun b o e => (upd_ne (ne_of_none e nL)).trans (s3 _ _ ((upd_ne (ne_of_none (sG _ _ e) nT)).trans (sG _ _ e))), ?_⟩
        · rw [List.length_take, sizeLine_eq]
          omega
        · rw [upd_same, take_snoc hz]
      · rw [← zm, List.take_length, ef, mems_eq hl fl] at hL
        have fa : ((r.take n).map nmV ++ (r.drop n).map nuV).all flatV = true := by
          rw [← mems_eq hl fl]
          refine List.all_eq_true.mpr fun v hv => ?_
          obtain ⟨i, hi⟩ := List.mem_iff_getElem?.mp hv
          rw [List.getElem?_zipWith] at hi
          split at hi
          · cases hi; exact flat_mem _ _
          · cases hi
        refine ⟨_, rfl, L, _, rfl, .inl (SqL.of hL), rfl, fa, _, rfl, ?_⟩
        rw [if_neg Bool.false_ne_true, none_in]
        have sH : Same H G := s1.trans sG
        cases q : ((r.take n).all isNm && (r.drop n).all okI) with
        | false =>
          refine ifY rfl ?_
          show tErr C (spIni K C) (tCons (tC (.int 0)) tNil) _ _ _
          refine err_read U ((no ?_).up sH)
          unfold told
          rw [if_neg]
          rintro ⟨_, q1, q2⟩
          rw [q1, q2] at q
          cases q
        | true =>
          rw [Bool.and_eq_true] at q
          refine ifN rfl ?_
          have hL' : G L = some (.lst ((r.take n).map V.str ++ (r.drop n).map fun x => V.int (valI x))) := by rw [hL, names_all q.1, nums_all q.2]
          have ne : ((r.take n).map V.str ++ (r.drop n).map fun x => V.int (valI x)) ≠ [] := by
            intro e
            have := congrArg List.length e
            rw [List.length_append, List.length_map, List.length_map, List.length_take, List.length_drop, List.length_nil] at this
            omega
          refine ⟨_, rfl, a, _, _, _, rfl, rfl, SqL.of (sH _ _ ha), (show atI _ ((0 : Nat) : Int) = some (V.str z) from atI_nat rfl), by show 1 ≤ sizeLine; decide, fun T1 n1 => ?_⟩
          refine ⟨_, rfl, L, _, rfl, .inl ⟨SqL.of ((upd_ne (ne_of_none hL' n1)).trans hL'), fun T2 n2 => ?_⟩⟩
          have t12 : T1 ≠ T2 := fun z => by rw [z] at n2; rw [upd_same] at n2; cases n2
          refine ⟨T1, T2, _, _, rfl, rfl, SqT.of ((upd_ne t12).trans upd_same), SqT.of upd_same, by simp, ?_, fun e => absurd e ne, fun _ T3 n3 => ?_⟩
          · rw [List.length_append, List.length_map, List.length_map, List.length_take, List.length_drop, sizeLine_eq]
            show 1 + _ ≤ _
            omega
          · have sT : Same H (upd (upd G T1 (.tup [.str z])) T2 (.tup ((r.take n).map V.str ++ (r.drop n).map fun x => V.int (valI x)))) := (sH.trans (same_new n1)).trans (same_new n2)
            refine yes _ ?_ T3 _ (sT.trans (same_new n3)) (sT.free n3) upd_same
            unfold told
            rw [if_pos ⟨hl, q.1, q.2⟩]
            rfl
    · refine ifY ?_ ?_
      · rw [decide_eq_false]
        · rfl
        · rw [List.length_map, List.length_cons, lf]
          intro e
          have := V.int.inj e
          omega
      · show tErr C (spIni K C) (tCons (tC (.int 0)) tNil) _ _ _
        refine err_read U (no ?_)
        unfold told
        rw [if_neg fun h => hl h.1]
end
end K4

set_option Elab.async false
set_option linter.all false
set_option maxRecDepth 100000
set_option maxHeartbeats 4000000
set_option autoImplicit false
/-! Steps and claims: read, told. -/
namespace K4
open PySem L2 TL
abbrev sReadStep : Stmt := top 17
abbrev sReadClaim : Stmt := top 18
abbrev sStepText : Stmt := top 15
abbrev sClaimText : Stmt := top 16
/-- what the dict of forms tells at a word -/
def FormIs : Option (Nat × Nat) → Option Value → Prop
  | none, r => r = none
  | some (n, k), r => ∃ (y : Str) (t : Tok) (l : List Nat), r = some (.str y t) ∧ tl y = List.replicate (n - 1) 112 ++ l ∧ (∀ c ∈ l, c ≠ 112) ∧ l.length = k
def PointsIs : Option (Nat × Nat) → Option Value → Prop
  | none, r => r = none
  | some (n, k), r => ∃ t : Tok, r = some (.int n t) ∧ k = 0
structure FormsTxt (K : PySem.W.Frag) (w : World) (mg : Str → Option Value) (dF dP : Addr) (eF eP : Array DictEntry) (nF nP : Nat) : Prop where
  gF : mg "FORMS" = some (.ref dF)
  kF : KDict K w dF eF nF
  vF : ∀ z, ∃ r, PySem.W.nsIn K dF z = some r ∧ FormIs (shapeOf true z) r
  gP : mg "POINTS" = some (.ref dP)
  kP : KDict K w dP eP nP
  vP : ∀ z, ∃ r, PySem.W.nsIn K dP z = some r ∧ PointsIs (shapeOf false z) r
def spReadS (K : PySem.W.Frag) (C : Addr) (b : Bool) : Sp := fun vs H Q E => ∃ x : V, vs = [x] ∧ ((∃ y : Str, x = .str y ∧ y.length ≤ 100000 ∧ (∀ us, due b y = some us → ∀ (p : Addr) (G : Hp), Same H G → H p = none → G p = some (.tup us) → Q (.ref p) G) ∧ (due b y = none → Raises C H E)) ∨ (NotStr K H x ∧ Raises C H E))
theorem told_formed {sh : Str → Option (Nat × Nat)} {z : Str} {n k : Nat} (h : sh z = some (n, k)) (r : List Str) : formed sh (z :: r) = told z r n k := formed_some h r
theorem mul_p {n : Nat} (h : n ≤ 6) : MulOk "p" (n : Int) ∧ tl (Txt.mul "p" (n : Int)) = List.replicate n 112 := by
  have : n = 0 ∨ n = 1 ∨ n = 2 ∨ n = 3 ∨ n = 4 ∨ n = 5 ∨ n = 6 := by omega
  unfold MulOk
  rcases this with rfl | rfl | rfl | rfl | rfl | rfl | rfl <;> decide +kernel
section
variable {P : Program} {w : World} {K : PySem.W.Frag} {mg : Str → Option Value} {base : Heap} {B C D fI fW fR : Addr} {dI dW dR : FuncData} {dF dP : Addr} {eF eP : Array DictEntry} {nF nP : Nat}
structure WordTxt (P : Program) (w : World) (K : PySem.W.Frag) (mg : Str → Option Value) (base : Heap) (C fW fR : Addr) (dW dR : FuncData) : Prop where
  okW : FnOk P w K mg base (L2N.CX P w) 3 fW dW ["text"] (spWords K C)
  bW : Binds K dW ["text"] []
  gW : mg "_words" = some (.ref fW)
  kW : PySem.W.keepIn K (.ref fW) = true
  okR : FnOk P w K mg base (L2N.CX P w) 4 fR dR ["words", "form"] (spRead C)
  bR : Binds K dR ["words", "form"] []
  gR : mg "_read" = some (.ref fR)
  kR : PySem.W.keepIn K (.ref fR) = true
theorem scReadStep : FnScope ["text", "words"] ["text"] (defScope sReadStep) := ⟨rfl, rfl, rfl, by decide +kernel, rfl, by decide +kernel, by decide +kernel⟩
theorem ok_readstep {f : Addr} {fd : FuncData} (F : Fun K "read_step" "read_step" sReadStep f fd) (U : ValTxt P w K mg base B C D fI dI) (T : WordTxt P w K mg base C fW fR dW dR) (M : FormsTxt K w mg dF dP eF eP nF nP) :
    FnOk P w K mg base (L2N.CX P w) 5 f fd ["text"] (spReadS K C true) := by
  refine okN F scReadStep (fun vs H Q E h => ?_) (fun cdv A outer s H vs Q E hr h => ?_)
  · obtain ⟨x, rfl, _⟩ := h
    rfl
  · obtain ⟨x, rfl, h⟩ := h
    have h2 : Room 2 _ := hr.mono (by decide)
    have h3 : Room 3 _ := hr.mono (by decide)
    refine ⟨_, pss_cons (ps_set (i := 1) scReadStep.nd rfl (Or.inl rfl) (pe_callS T.okW h3 rfl T.gW T.kW T.bW (fun σ => L2N.passAt (L2N.takes_of rfl rfl rfl rfl) σ) (pa_cons (pv 0) pa_nil)))
      (pss_cons (ps_if (pt_cmpR (op_notIn_kd M.kF) (pe_ix ix_list (pv 1) pe_int (fun _ _ => rfl)) (pe_glob (v := .ref dF) (by rfl) M.gF (by exact rfl)) (by rfl)) (pss_one (L2N.ps_raise rfl (L2N.takes_of rfl rfl rfl rfl) (pmk_err U.err U.iC U.tI U.ini h2 U.bd pass0 rfl U.gC (pa_cons pe_int pa_nil)))) pss_nil)
      (pss_one (ps_ret (pe_callS T.okR hr rfl T.gR T.kR T.bR (fun σ => L2N.passAt (L2N.takes_of rfl rfl rfl rfl) σ) (pa_cons (pv 1) (pa_cons (pe_op op_add_str pe_str (pe_ix ix_kdict (pe_glob (v := .ref dF) (by rfl) M.gF (by exact rfl)) (pe_ix ix_list (pv 1) pe_int (fun _ _ => rfl)) (fun _ _ => rfl))) pa_nil)))))), ?_⟩
    rcases h with ⟨y, rfl, ly, yes, no⟩ | ⟨ns, go⟩
    · refine ⟨_, rfl, _, rfl, .inl ⟨y, rfl, by omega, fun p G sG np hp => ?_⟩⟩
      obtain ⟨z, r, er⟩ := split_ne y
      obtain ⟨w1, w2, w3⟩ := split_len y
      unfold due at yes no
      rw [er] at hp w1 w2 w3 yes no
      obtain ⟨v, hv, hf⟩ := M.vF z
      refine ⟨_, rfl, p, _, _, _, rfl, rfl, SqL.of hp, (show atI _ ((0 : Nat) : Int) = some (V.str z) from atI_nat rfl), z, v, rfl, rfl, hv, _, rfl, ?_⟩
      cases sh : shapeOf true z with
      | none =>
        rw [sh] at hf
        obtain rfl : v = none := hf
        refine ifY rfl ?_
        show tErr C (spIni K C) (tCons (tC (.int 0)) tNil) _ _ _
        exact err_read U ((no (formed_none sh r)).up sG)
      | some nk =>
        obtain ⟨n, k⟩ := nk
        rw [sh] at hf
        obtain ⟨u, t, l, rfl, eu, fl, lk⟩ := hf
        obtain ⟨n1, n6, k2⟩ := shape_lim sh
        rw [told_formed sh] at yes no
        have lu : u.length = n - 1 + k := by rw [← len_tl, eu, List.length_append, List.length_replicate, lk]
        refine ifN rfl ?_
        refine ⟨_, rfl, _, rfl, p, _, _, _, rfl, rfl, SqL.of hp, (show atI _ ((0 : Nat) : Int) = some (V.str z) from atI_nat rfl), dF, z, .str u, rfl, rfl, ⟨eF, nF, _, M.kF.at_, M.kF.lit, hv, ⟨t, rfl⟩⟩, _, _, rfl, rfl, ?_, ?_⟩
        · rw [lu, show ((("p" : Str)).length) = 1 from by decide +kernel, sizeLine_eq]
          omega
        · refine ⟨p, _, z, r, n, k, l, rfl, hp, ?_, fl, lk, n1, by omega, fun x hx => ?_, ?_, fun us hu q G2 s2 n2 e2 => yes us hu q G2 (sG.trans s2) (sG.free n2) e2, fun q => (no q).up sG⟩
          · rw [tl_append, tlp, eu]
            obtain ⟨m, rfl⟩ : ∃ m, n = m + 1 := ⟨n - 1, by omega⟩
            rw [List.replicate_succ]
            rfl
          · have := w3 x (List.mem_cons_of_mem _ hx)
            omega
          · rw [List.length_cons] at w1
            omega
    · exact ⟨_, rfl, _, rfl, .inr ⟨ns, go⟩⟩
theorem scReadClaim : FnScope ["text", "words"] ["text"] (defScope sReadClaim) := ⟨rfl, rfl, rfl, by decide +kernel, rfl, by decide +kernel, by decide +kernel⟩
theorem ok_readclaim {f : Addr} {fd : FuncData} (F : Fun K "read_claim" "read_claim" sReadClaim f fd) (U : ValTxt P w K mg base B C D fI dI) (T : WordTxt P w K mg base C fW fR dW dR) (M : FormsTxt K w mg dF dP eF eP nF nP) :
    FnOk P w K mg base (L2N.CX P w) 5 f fd ["text"] (spReadS K C false) := by
  refine okN F scReadClaim (fun vs H Q E h => ?_) (fun cdv A outer s H vs Q E hr h => ?_)
  · obtain ⟨x, rfl, _⟩ := h
    rfl
  · obtain ⟨x, rfl, h⟩ := h
    have h2 : Room 2 _ := hr.mono (by decide)
    have h3 : Room 3 _ := hr.mono (by decide)
    refine ⟨_, pss_cons (ps_set (i := 1) scReadClaim.nd rfl (Or.inl rfl) (pe_callS T.okW h3 rfl T.gW T.kW T.bW (fun σ => L2N.passAt (L2N.takes_of rfl rfl rfl rfl) σ) (pa_cons (pv 0) pa_nil)))
      (pss_cons (ps_if (pt_cmpR (op_notIn_kd M.kP) (pe_ix ix_list (pv 1) pe_int (fun _ _ => rfl)) (pe_glob (v := .ref dP) (by rfl) M.gP (by exact rfl)) (by rfl)) (pss_one (L2N.ps_raise rfl (L2N.takes_of rfl rfl rfl rfl) (pmk_err U.err U.iC U.tI U.ini h2 U.bd pass0 rfl U.gC (pa_cons pe_int pa_nil)))) pss_nil)
      (pss_one (ps_ret (pe_callS T.okR hr rfl T.gR T.kR T.bR (fun σ => L2N.passAt (L2N.takes_of rfl rfl rfl rfl) σ) (pa_cons (pv 1) (pa_cons (pe_op op_mulS pe_str (pe_ix ix_kdict (pe_glob (v := .ref dP) (by rfl) M.gP (by exact rfl)) (pe_ix ix_list (pv 1) pe_int (fun _ _ => rfl)) (fun _ _ => rfl))) pa_nil)))))), ?_⟩
    rcases h with ⟨y, rfl, ly, yes, no⟩ | ⟨ns, go⟩
    · refine ⟨_, rfl, _, rfl, .inl ⟨y, rfl, by omega, fun p G sG np hp => ?_⟩⟩
      obtain ⟨z, r, er⟩ := split_ne y
      obtain ⟨w1, w2, w3⟩ := split_len y
      unfold due at yes no
      rw [er] at hp w1 w2 w3 yes no
      obtain ⟨v, hv, hf⟩ := M.vP z
      refine ⟨_, rfl, p, _, _, _, rfl, rfl, SqL.of hp, (show atI _ ((0 : Nat) : Int) = some (V.str z) from atI_nat rfl), z, v, rfl, rfl, hv, _, rfl, ?_⟩
      cases sh : shapeOf false z with
      | none =>
        rw [sh] at hf
        obtain rfl : v = none := hf
        refine ifY rfl ?_
        show tErr C (spIni K C) (tCons (tC (.int 0)) tNil) _ _ _
        exact err_read U ((no (formed_none sh r)).up sG)
      | some nk =>
        obtain ⟨n, k⟩ := nk
        rw [sh] at hf
        obtain ⟨t, rfl, rfl⟩ := hf
        obtain ⟨n1, n6, k2⟩ := shape_lim sh
        rw [told_formed sh] at yes no
        obtain ⟨ok, em⟩ := mul_p n6
        refine ifN rfl ?_
        refine ⟨_, rfl, _, rfl, p, _, _, _, rfl, rfl, SqL.of hp, (show atI _ ((0 : Nat) : Int) = some (V.str z) from atI_nat rfl), dP, z, .int n, rfl, rfl, ⟨eP, nP, _, M.kP.at_, M.kP.lit, hv, ⟨t, rfl⟩⟩, _, _, rfl, rfl, ok, ?_⟩
        refine ⟨p, _, z, r, n, 0, [], rfl, hp, by rw [em, List.append_nil], (fun c hc => nomatch hc), rfl, n1, by omega, fun x hx => ?_, ?_, fun us hu q G2 s2 n2 e2 => yes us hu q G2 (sG.trans s2) (sG.free n2) e2, fun q => (no q).up sG⟩
        · have := w3 x (List.mem_cons_of_mem _ hx)
          omega
        · rw [List.length_cons] at w1
          omega
    · exact ⟨_, rfl, _, rfl, .inr ⟨ns, go⟩⟩
variable {fT : Addr} {dT : FuncData}
theorem scStepText : FnScope ["step"] ["step"] (defScope sStepText) := ⟨rfl, rfl, rfl, by decide +kernel, rfl, by decide +kernel, by decide +kernel⟩
theorem ok_steptext {f : Addr} {fd : FuncData} (F : Fun K "step_text" "step_text" sStepText f fd) (G : FnOk P w K mg base CX0 1 fT dT ["members"] (spText K)) (b : Binds K dT ["members"] []) (g : mg "_text" = some (.ref fT)) (k : PySem.W.keepIn K (.ref fT) = true) :
    FnOk P w K mg base CX0 2 f fd ["step"] (spText K) := by
  refine F.ok scStepText (fun vs H Q E h => ?_) (fun cdv A outer s H vs Q E hr h => ?_)
  · obtain ⟨a, xs, ys, rfl, _⟩ := h
    rfl
  · obtain ⟨a, xs, ys, rfl, r⟩ := h
    exact ⟨_, pss_one (ps_ret (pe_call G hr rfl g k b .nil pass0 (pa_cons (pv 0) pa_nil))), _, rfl, a, xs, ys, rfl, r⟩
theorem scClaimText : FnScope ["claim"] ["claim"] (defScope sClaimText) := ⟨rfl, rfl, rfl, by decide +kernel, rfl, by decide +kernel, by decide +kernel⟩
theorem ok_claimtext {f : Addr} {fd : FuncData} (F : Fun K "claim_text" "claim_text" sClaimText f fd) (G : FnOk P w K mg base CX0 1 fT dT ["members"] (spText K)) (b : Binds K dT ["members"] []) (g : mg "_text" = some (.ref fT)) (k : PySem.W.keepIn K (.ref fT) = true) :
    FnOk P w K mg base CX0 2 f fd ["claim"] (spText K) := by
  refine F.ok scClaimText (fun vs H Q E h => ?_) (fun cdv A outer s H vs Q E hr h => ?_)
  · obtain ⟨a, xs, ys, rfl, _⟩ := h
    rfl
  · obtain ⟨a, xs, ys, rfl, r⟩ := h
    exact ⟨_, pss_one (ps_ret (pe_call G hr rfl g k b .nil pass0 (pa_cons (pv 0) pa_nil))), _, rfl, a, xs, ys, rfl, r⟩
end
end K4

set_option Elab.async false
set_option linter.all false
set_option maxRecDepth 100000
set_option maxHeartbeats 4000000
set_option autoImplicit false
/-! The law's own comparison. -/
namespace K4
open PySem L2 TL
abbrev sMeets : Stmt := top 26
/-- a text or an integer -/
inductive Atom : V → Prop
  | str (x : Str) : Atom (.str x)
  | int (i : Int) : Atom (.int i)
def spMeets0 : Sp := fun vs H Q _ => ∃ x : V, vs = [x, x] ∧ Atom x ∧ ∀ H', Same H H' → Q (.bl true) H'
def spMeets : Sp := fun vs H Q _ => ∃ x y : V, vs = [x, y] ∧ ((x = y ∧ Atom x) ∨ ∃ (p q : Addr) (us : List V), x = .ref p ∧ y = .ref q ∧ H p = some (.tup us) ∧ H q = some (.tup us) ∧ us.length ≤ 1000 ∧ ∀ v ∈ us, Atom v) ∧ ∀ H', Same H H' → Q (.bl true) H'
structure MeetsTxt (K : PySem.W.Frag) (mg : Str → Option Value) (fS : Addr) : Prop where
  isinst : mg "isinstance" = none
  tuple : mg "tuple" = none
  str : mg "str" = none
  bool : mg "bool" = none
  int : mg "int" = none
  len : mg "len" = none
  range : mg "range" = none
  gS : mg "_law_meets" = some (.ref fS)
  kS : PySem.W.keepIn K (.ref fS) = true
section
variable {P : Program} {w : World} {K : PySem.W.Frag} {mg : Str → Option Value} {base : Heap} {fS : Addr}
theorem scMeets : FnScope ["told", "due", "k"] ["told", "due"] (defScope sMeets) := ⟨rfl, rfl, rfl, by decide +kernel, rfl, by decide +kernel, by decide +kernel⟩
def rIs : R2 := fun x y H Q => y = .non ∧ Q (.bl (decide (x = .non))) H
def mTail (K : PySem.W.Frag) (t : TS) : TS := tSeq (tIfS (tTest (tOp rIs (tVar 1) (tC .non))) (tRet (tOp rIs (tVar 0) (tC .non))) tNext) (tSeq (tIfS (tTest (tI K 1 "bool")) (tRet (tAndV (tI K 0 "bool") (tOp rEq (tVar 0) (tVar 1)))) tNext)
  (tSeq (tIfS (tTest (tI K 1 "int")) (tRet (tAndV (tI K 0 "int") (tAndV (tNotV (tI K 0 "bool")) (tOp rEq (tVar 0) (tVar 1))))) tNext) (tSeq (tIfS (tTest (tI K 1 "str")) (tRet (tAndV (tI K 0 "str") (tOp rEq (tVar 0) (tVar 1)))) tNext) t)))
theorem m_leaf {t : TS} {H : Hp} {D : Ends} {x : V} {o : Option V} (al : Atom x) (go : D.rt (.bl true) H) : mTail K t D [some x, some x, o] H := by
  cases al with
  | str z =>
    refine ⟨_, rfl, rfl, _, rfl, ifN (by simp) ?_⟩
    refine isi (K := K) (b := false) rfl (.str z) (by decide +kernel) ⟨_, rfl, ifN rfl ?_⟩
    refine isi (K := K) (b := false) rfl (.str z) (by decide +kernel) ⟨_, rfl, ifN rfl ?_⟩
    refine isi (K := K) (b := true) rfl (.str z) (by decide +kernel) ⟨_, rfl, ifY rfl ?_⟩
    refine isi (K := K) (b := true) rfl (.str z) (by decide +kernel) ⟨true, rfl, ifY rfl ⟨_, rfl, _, rfl, rfl, ?_⟩⟩
    rw [decide_eq_true (rfl : V.str z = V.str z)]
    exact go
  | int z =>
    refine ⟨_, rfl, rfl, _, rfl, ifN (by simp) ?_⟩
    refine isi (K := K) (b := false) rfl (.int z) (by decide +kernel) ⟨_, rfl, ifN rfl ?_⟩
    refine isi (K := K) (b := true) rfl (.int z) (by decide +kernel) ⟨_, rfl, ifY rfl ?_⟩
    refine isi (K := K) (b := true) rfl (.int z) (by decide +kernel) ⟨true, rfl, ifY rfl ?_⟩
    refine isi (K := K) (b := false) rfl (.int z) (by decide +kernel) ⟨false, rfl, true, rfl, ifY rfl ⟨_, rfl, _, rfl, rfl, ?_⟩⟩
    rw [decide_eq_true (rfl : V.int z = V.int z)]
    exact go
theorem ok_meets0 {fd : FuncData} (F : Fun K "_law_meets" "_law_meets" sMeets fS fd) (T : MeetsTxt K mg fS) : FnOk P w K mg base CX0 1 fS fd ["told", "due"] spMeets0 := by
  refine F.ok scMeets (fun vs H Q E h => ?_) (fun cdv A outer s H vs Q E hr h => ?_)
  · obtain ⟨x, rfl, _⟩ := h
    rfl
  · obtain ⟨x, rfl, al, go⟩ := h
    refine ⟨_, pss_cons (ps_if (pt_cmpR op_isN (pv 1) pe_non (nomark _)) (pss_one (ps_ret (pe_cmpR op_isN (pv 0) pe_non (nomark _)))) pss_nil)
      (pss_cons (ps_if (pt_val (pe_callB call_isi (by rfl) T.isinst (by decide +kernel) (pa_cons (pv 1) (pa_cons (pe_bltn (v := .ty "bool") (u := .type "bool") (by rfl) T.bool (by decide +kernel) (by exact rfl)) pa_nil)))) (pss_one (ps_ret (pe_and (pe_callB call_isi (by rfl) T.isinst (by decide +kernel) (pa_cons (pv 0) (pa_cons (pe_bltn (v := .ty "bool") (u := .type "bool") (by rfl) T.bool (by decide +kernel) (by exact rfl)) pa_nil))) (pe_one (pe_cmpR op_eq (pv 0) (pv 1) (nomark _)))))) pss_nil)
      (pss_cons (ps_if (pt_val (pe_callB call_isi (by rfl) T.isinst (by decide +kernel) (pa_cons (pv 1) (pa_cons (pe_bltn (v := .ty "int") (u := .type "int") (by rfl) T.int (by decide +kernel) (by exact rfl)) pa_nil)))) (pss_one (ps_ret (pe_and (pe_callB call_isi (by rfl) T.isinst (by decide +kernel) (pa_cons (pv 0) (pa_cons (pe_bltn (v := .ty "int") (u := .type "int") (by rfl) T.int (by decide +kernel) (by exact rfl)) pa_nil))) (pe_and (pe_not (pe_callB call_isi (by rfl) T.isinst (by decide +kernel) (pa_cons (pv 0) (pa_cons (pe_bltn (v := .ty "bool") (u := .type "bool") (by rfl) T.bool (by decide +kernel) (by exact rfl)) pa_nil)))) (pe_one (pe_cmpR op_eq (pv 0) (pv 1) (nomark _))))))) pss_nil)
      (pss_cons (ps_if (pt_val (pe_callB call_isi (by rfl) T.isinst (by decide +kernel) (pa_cons (pv 1) (pa_cons (pe_bltn (v := .ty "str") (u := .type "str") (by rfl) T.str (by decide +kernel) (by exact rfl)) pa_nil)))) (pss_one (ps_ret (pe_and (pe_callB call_isi (by rfl) T.isinst (by decide +kernel) (pa_cons (pv 0) (pa_cons (pe_bltn (v := .ty "str") (u := .type "str") (by rfl) T.str (by decide +kernel) (by exact rfl)) pa_nil))) (pe_one (pe_cmpR op_eq (pv 0) (pv 1) (nomark _)))))) pss_nil)
      pss_never))), ?_⟩
    show mTail K _ _ [some x, some x, none] H
    exact m_leaf al (go H (Same.refl H))
theorem ok_meets {fd : FuncData} (F : Fun K "_law_meets" "_law_meets" sMeets fS fd) (bS : Binds K fd ["told", "due"] []) (T : MeetsTxt K mg fS) (G : FnOk P w K mg base CX0 1 fS fd ["told", "due"] spMeets0) : FnOk P w K mg base CX0 2 fS fd ["told", "due"] spMeets := by
  refine F.ok scMeets (fun vs H Q E h => ?_) (fun cdv A outer s H vs Q E hr h => ?_)
  · obtain ⟨x, y, rfl, _⟩ := h
    rfl
  · obtain ⟨x, y, rfl, al, go⟩ := h
    refine ⟨_, pss_cons (ps_if (pt_cmpR op_isN (pv 1) pe_non (nomark _)) (pss_one (ps_ret (pe_cmpR op_isN (pv 0) pe_non (nomark _)))) pss_nil)
      (pss_cons (ps_if (pt_val (pe_callB call_isi (by rfl) T.isinst (by decide +kernel) (pa_cons (pv 1) (pa_cons (pe_bltn (v := .ty "bool") (u := .type "bool") (by rfl) T.bool (by decide +kernel) (by exact rfl)) pa_nil)))) (pss_one (ps_ret (pe_and (pe_callB call_isi (by rfl) T.isinst (by decide +kernel) (pa_cons (pv 0) (pa_cons (pe_bltn (v := .ty "bool") (u := .type "bool") (by rfl) T.bool (by decide +kernel) (by exact rfl)) pa_nil))) (pe_one (pe_cmpR op_eq (pv 0) (pv 1) (nomark _)))))) pss_nil)
      (pss_cons (ps_if (pt_val (pe_callB call_isi (by rfl) T.isinst (by decide +kernel) (pa_cons (pv 1) (pa_cons (pe_bltn (v := .ty "int") (u := .type "int") (by rfl) T.int (by decide +kernel) (by exact rfl)) pa_nil)))) (pss_one (ps_ret (pe_and (pe_callB call_isi (by rfl) T.isinst (by decide +kernel) (pa_cons (pv 0) (pa_cons (pe_bltn (v := .ty "int") (u := .type "int") (by rfl) T.int (by decide +kernel) (by exact rfl)) pa_nil))) (pe_and (pe_not (pe_callB call_isi (by rfl) T.isinst (by decide +kernel) (pa_cons (pv 0) (pa_cons (pe_bltn (v := .ty "bool") (u := .type "bool") (by rfl) T.bool (by decide +kernel) (by exact rfl)) pa_nil)))) (pe_one (pe_cmpR op_eq (pv 0) (pv 1) (nomark _))))))) pss_nil)
      (pss_cons (ps_if (pt_val (pe_callB call_isi (by rfl) T.isinst (by decide +kernel) (pa_cons (pv 1) (pa_cons (pe_bltn (v := .ty "str") (u := .type "str") (by rfl) T.str (by decide +kernel) (by exact rfl)) pa_nil)))) (pss_one (ps_ret (pe_and (pe_callB call_isi (by rfl) T.isinst (by decide +kernel) (pa_cons (pv 0) (pa_cons (pe_bltn (v := .ty "str") (u := .type "str") (by rfl) T.str (by decide +kernel) (by exact rfl)) pa_nil))) (pe_one (pe_cmpR op_eq (pv 0) (pv 1) (nomark _)))))) pss_nil)
      (pss_cons (ps_if (PW.pt (pw_or (pt_not (pt_val (pe_callB call_isi (by rfl) T.isinst (by decide +kernel) (pa_cons (pv 0) (pa_cons (pe_bltn (v := .ty "tuple") (u := .type "tuple") (by rfl) T.tuple (by decide +kernel) (by exact rfl)) pa_nil))))) (pw_or1 (pt_cmpR op_ne (pe_callB call_len_seq (by rfl) T.len PySem.boot_len (pa_cons (pv 0) pa_nil)) (pe_callB call_len_seq (by rfl) T.len PySem.boot_len (pa_cons (pv 1) pa_nil)) (nomark _))))) (pss_one (ps_ret pe_bl)) pss_nil)
      (pss_cons (ps_for PassesOwn.never rfl (pi_range1 (by rfl) T.range (pa_cons (pe_callB call_len_seq (by rfl) T.len PySem.boot_len (pa_cons (pv 1) pa_nil)) pa_nil)) (pg_name (i := 2) scMeets.nd rfl (Or.inl rfl))
        (pss_one (ps_if (pt_not (pt_val (pe_call G hr rfl T.gS T.kS bS .nil pass0 (pa_cons (pe_ix ix_tup (pv 0) (pv 2) (fun _ _ => rfl)) (pa_cons (pe_ix ix_tup (pv 1) (pv 2) (fun _ _ => rfl)) pa_nil))))) (pss_one (ps_ret pe_bl)) pss_nil)))
      (pss_one (ps_ret pe_bl))))))), ?_⟩
    rcases al with ⟨rfl, al⟩ | ⟨p, q, us, rfl, rfl, hp, hq, lu, at_⟩
    · show mTail K _ _ [some x, some x, none] H
      exact m_leaf al (go H (Same.refl H))
    · refine ⟨_, rfl, rfl, _, rfl, ifN (by simp) ?_⟩
      refine isi (K := K) (b := false) rfl (.tup hq) (by decide +kernel) ⟨_, rfl, ifN rfl ?_⟩
      refine isi (K := K) (b := false) rfl (.tup hq) (by decide +kernel) ⟨_, rfl, ifN rfl ?_⟩
      refine isi (K := K) (b := false) rfl (.tup hq) (by decide +kernel) ⟨_, rfl, ifN rfl ?_⟩
      refine isi (K := K) (b := true) rfl (.tup hp) (by decide +kernel) ⟨_, rfl, ifN rfl ?_⟩
      refine ⟨_, rfl, p, us, rfl, .inr (SqT.of hp), _, rfl, q, us, rfl, .inr (SqT.of hq), rfl, _, rfl, ifN (by simp) ?_⟩
      refine ⟨_, rfl, q, us, rfl, .inr (SqT.of hq), (us.length : Int), rfl, by omega, by omega, for_range (lo := 0) (n := us.length) (fun i σ G => ∃ u, σ = [some (.ref p), some (.ref q), u] ∧ Same H G) ⟨_, rfl, Same.refl H⟩ (fun i σ G hi ⟨u, hσ, sG⟩ => ?_) (fun σ G ⟨u, hσ, sG⟩ => ?_)⟩
      · subst hσ
        have hx : us[i]? = some us[i] := by simp
        refine ⟨_, rfl, _, rfl, p, us, _, _, rfl, rfl, SqT.of (sG _ _ hp), at_of (Int.zero_add _) hx, _, rfl, _, rfl, q, us, _, _, rfl, rfl, SqT.of (sG _ _ hq), at_of (Int.zero_add _) hx, _, rfl, at_ _ (List.getElem_mem _), fun G2 s2 => ⟨true, rfl, ?_⟩⟩
        exact ifN rfl ⟨_, rfl, sG.trans s2⟩
      · subst hσ
        exact go G sG
end
end K4

set_option Elab.async false
set_option linter.all false
set_option maxRecDepth 100000
set_option maxHeartbeats 4000000
set_option autoImplicit false
/-! The law's own tables of forms, its own names and integers. -/
namespace K4
open PySem L2 TL
abbrev sStepSh : Stmt := top 28
abbrev sClaimSh : Stmt := top 29
abbrev sLName : Stmt := top 30
abbrev sLInt : Stmt := top 31
abbrev sLine : Stmt := top 33
inductive ShR (H : Hp) : List Sh → List (L2.Key × V) → Prop
  | nil : ShR H [] []
  | cons {z : Str} {n k : Nat} {t : Addr} {l : List Sh} {kvs : List (L2.Key × V)} (h : H t = some (.tup [.int n, .int k])) (r : ShR H l kvs) : ShR H ((z, n, k) :: l) ((.inr z, .ref t) :: kvs)
theorem ShR.up {H G : Hp} (s : Same H G) {l : List Sh} {kvs : List (L2.Key × V)} (h : ShR H l kvs) : ShR G l kvs := by
  induction h with
  | nil => exact .nil
  | cons h _ ih => exact .cons (s _ _ h) ih
theorem ShR.set {H : Hp} {d : Addr} {o : HO} {l : List Sh} {kvs : List (L2.Key × V)} (nt : ∀ t xs, H t = some (.tup xs) → t ≠ d) (h : ShR H l kvs) : ShR (upd H d o) l kvs := by
  induction h with
  | nil => exact .nil
  | cons h1 _ ih => exact .cons ((upd_ne (nt _ _ h1)).trans h1) ih
theorem ShR.val {H : Hp} {l : List Sh} {kvs : List (L2.Key × V)} (h : ShR H l kvs) (z : Str) : (shapeIn l z = none ∧ valV kvs (Sum.inr z : L2.Key) = none) ∨ ∃ n k t, shapeIn l z = some (n, k) ∧ valV kvs (Sum.inr z : L2.Key) = some (.ref t) ∧ H t = some (.tup [.int (n : Nat), .int (k : Nat)]) := by
  induction h with
  | nil => exact .inl ⟨rfl, rfl⟩
  | @cons y n k t l kvs h r ih =>
    by_cases e : y = z
    · subst e
      refine .inr ⟨n, k, t, ?_, valV_pos rfl, h⟩
      unfold shapeIn
      rw [List.find?_cons, decide_eq_true (rfl : y = y)]
      rfl
    · have e1 : shapeIn ((y, n, k) :: l) z = shapeIn l z := by
        unfold shapeIn
        rw [List.find?_cons, decide_eq_false e]
      have e2 : valV ((Sum.inr y, V.ref t) :: kvs) (Sum.inr z : L2.Key) = valV kvs (Sum.inr z : L2.Key) := valV_neg (fun q => e (Sum.inr.inj q))
      rw [e1, e2]
      exact ih
theorem ShR.keys {H : Hp} {l : List Sh} {kvs : List (L2.Key × V)} (h : ShR H l kvs) : kvs.map (fun kv => kV kv.1) = l.map fun e => V.str e.1 := by
  induction h with
  | nil => rfl
  | cons h _ ih => rw [List.map_cons, List.map_cons, ih]; rfl
theorem ShR.len {H : Hp} {l : List Sh} {kvs : List (L2.Key × V)} (h : ShR H l kvs) : kvs.length = l.length := by
  induction h with
  | nil => rfl
  | cons h _ ih => rw [List.length_cons, List.length_cons, ih]
theorem merge_new : ∀ (more kvs : List (L2.Key × V)), ((kvs ++ more).map (·.1)).Nodup → mergeK kvs more = kvs ++ more
  | [], kvs, _ => by rw [List.append_nil]; rfl
  | kv :: more, kvs, nd => by
    have e : putK kvs kv.1 kv.2 = kvs ++ [kv] := putK_new kv.2 (by
      cases q : valV kvs kv.1 with
      | none => rfl
      | some v =>
        exfalso
        unfold valV at q
        cases f : kvs.find? fun p => decide (p.1 = kv.1) with
        | none => rw [f] at q; cases q
        | some p =>
          have h1 := List.find?_some f
          have h2 := List.mem_of_find?_eq_some f
          rw [List.map_append] at nd
          exact (List.nodup_append.mp nd).2.2 p.1 (List.mem_map.mpr ⟨p, h2, rfl⟩) kv.1 (by simp) (of_decide_eq_true h1))
    show mergeK (putK kvs kv.1 kv.2) more = _
    rw [e, merge_new more (kvs ++ [kv]) (by rw [List.append_assoc]; exact nd), List.append_assoc]
    rfl
theorem ShR.nodup {H : Hp} {l : List Sh} {kvs : List (L2.Key × V)} (h : ShR H l kvs) (nd : (l.map (·.1)).Nodup) : (kvs.map (·.1)).Nodup := by
  have e : kvs.map (·.1) = (l.map (·.1)).map (Sum.inr : Str → L2.Key) := by
    clear nd
    induction h with
    | nil => rfl
    | cons h _ ih => rw [List.map_cons, ih]; rfl
  rw [e]
  exact List.Pairwise.map _ (fun a b n q => n (Sum.inr.inj q)) nd
/-- one entry of a written table -/
def shTE (e : Sh) : TE × TE := (tC (.str e.1), tTup (tCons (tC (.int (e.2.1 : Nat))) (tCons (tC (.int (e.2.2 : Nat))) tNil)))
theorem pairs_read {σ : L2.St} : ∀ (l : List Sh) {H : Hp} {Q : List (V × V) → Hp → Prop}, (∀ G kvs, Same H G → ShR G l kvs → Q (kvs.map fun kv => (kV kv.1, kv.2)) G) → tPairs (l.map shTE) σ H Q
  | [], H, Q, go => go H [] (Same.refl H) .nil
  | (z, n, k) :: l, H, Q, go => by
    show tPairs ((tC (.str z), tTup (tCons (tC (.int (n : Nat))) (tCons (tC (.int (k : Nat))) tNil))) :: l.map shTE) σ H Q
    unfold tPairs
    refine ⟨by show 2 ≤ sizeLine; decide, fun t nt => ?_⟩
    refine pairs_read l fun G kvs sG h => ?_
    exact go G ((.inr z, .ref t) :: kvs) ((same_new nt).trans sG) (.cons (sG _ _ upd_same) h)
theorem disp_read {σ : L2.St} {l : List Sh} {H : Hp} {Q : VK} (h15 : l.length ≤ 15) (nd : (l.map (·.1)).Nodup) (go : ∀ (d : Addr) (G : Hp) (kvs : List (L2.Key × V)), Same H G → H d = none → G d = some (.dK kvs) → ShR G l kvs → Q (.ref d) G) : tDisp (l.map shTE) σ H Q := by
  intro d nd'
  refine pairs_read l fun G kvs sG h => ?_
  have hd : G d = some (.dK []) := sG _ _ upd_same
  refine ⟨hd, kvs, rfl, by rw [h.len]; exact h15, ?_⟩
  have e : mergeK [] kvs = kvs := merge_new kvs [] (h.nodup nd)
  rw [e]
  have sH : Same H (upd G d (.dK kvs)) := fun a o q => (upd_ne (ne_of_none q nd')).trans (sG a o ((upd_ne (ne_of_none q nd')).trans q))
  exact go d _ kvs sH nd' upd_same (h.set fun t xs q z => by rw [z, hd] at q; cases q)
/-- at d a table of forms -/
def ShapesAt (H : Hp) (b : Bool) (d : Addr) : Prop := ∃ kvs, H d = some (.dK kvs) ∧ ShR H (shL b) kvs
theorem ShapesAt.up {H G : Hp} {b : Bool} {d : Addr} (h : ShapesAt H b d) (s : Same H G) : ShapesAt G b d := h.elim fun kvs ⟨h1, h2⟩ => ⟨kvs, s _ _ h1, h2.up s⟩
def spShapes (b : Bool) : Sp := fun vs H Q _ => vs = [] ∧ ∀ (d : Addr) (G : Hp), Same H G → H d = none → ShapesAt G b d → Q (.ref d) G
section
variable {P : Program} {w : World} {K : PySem.W.Frag} {mg : Str → Option Value} {base : Heap}
theorem scStepSh : FnScope [] [] (defScope sStepSh) := ⟨rfl, rfl, rfl, by decide +kernel, rfl, by decide +kernel, by decide +kernel⟩
theorem scClaimSh : FnScope [] [] (defScope sClaimSh) := ⟨rfl, rfl, rfl, by decide +kernel, rfl, by decide +kernel, by decide +kernel⟩
theorem ok_stepsh {f : Addr} {fd : FuncData} (F : Fun K "_law_step_shapes" "_law_step_shapes" sStepSh f fd) : FnOk P w K mg base CX0 1 f fd [] (spShapes true) := by
  refine F.ok scStepSh (fun vs H Q E h => ?_) (fun cdv A outer s H vs Q E hr h => ?_)
  · obtain ⟨rfl, _⟩ := h
    rfl
  · obtain ⟨rfl, go⟩ := h
    refine ⟨_, pss_one (ps_ret (pe_disp (pps_cons pe_str (pe_tup (pa_cons pe_int (pa_cons pe_int pa_nil))) (pps_cons pe_str (pe_tup (pa_cons pe_int (pa_cons pe_int pa_nil))) (pps_cons pe_str (pe_tup (pa_cons pe_int (pa_cons pe_int pa_nil))) (pps_cons pe_str (pe_tup (pa_cons pe_int (pa_cons pe_int pa_nil)))
      (pps_cons pe_str (pe_tup (pa_cons pe_int (pa_cons pe_int pa_nil))) (pps_cons pe_str (pe_tup (pa_cons pe_int (pa_cons pe_int pa_nil))) (pps_cons pe_str (pe_tup (pa_cons pe_int (pa_cons pe_int pa_nil))) (pps_cons pe_str (pe_tup (pa_cons pe_int (pa_cons pe_int pa_nil))) (pps_cons pe_str (pe_tup (pa_cons pe_int (pa_cons pe_int pa_nil)))
      (pps_cons pe_str (pe_tup (pa_cons pe_int (pa_cons pe_int pa_nil))) (pps_cons pe_str (pe_tup (pa_cons pe_int (pa_cons pe_int pa_nil))) pps_nil))))))))))) (by rfl) (by rfl) (by simp) (by decide))), ?_⟩
    show tDisp (shS.map shTE) _ _ _
    exact disp_read (by decide) (by decide +kernel) fun d G kvs sG nd h1 h2 => go d G sG nd ⟨kvs, h1, h2⟩
theorem ok_claimsh {f : Addr} {fd : FuncData} (F : Fun K "_law_claim_shapes" "_law_claim_shapes" sClaimSh f fd) : FnOk P w K mg base CX0 1 f fd [] (spShapes false) := by
  refine F.ok scClaimSh (fun vs H Q E h => ?_) (fun cdv A outer s H vs Q E hr h => ?_)
  · obtain ⟨rfl, _⟩ := h
    rfl
  · obtain ⟨rfl, go⟩ := h
    refine ⟨_, pss_one (ps_ret (pe_disp (pps_cons pe_str (pe_tup (pa_cons pe_int (pa_cons pe_int pa_nil))) (pps_cons pe_str (pe_tup (pa_cons pe_int (pa_cons pe_int pa_nil))) (pps_cons pe_str (pe_tup (pa_cons pe_int (pa_cons pe_int pa_nil))) (pps_cons pe_str (pe_tup (pa_cons pe_int (pa_cons pe_int pa_nil)))
      (pps_cons pe_str (pe_tup (pa_cons pe_int (pa_cons pe_int pa_nil))) (pps_cons pe_str (pe_tup (pa_cons pe_int (pa_cons pe_int pa_nil))) (pps_cons pe_str (pe_tup (pa_cons pe_int (pa_cons pe_int pa_nil))) (pps_cons pe_str (pe_tup (pa_cons pe_int (pa_cons pe_int pa_nil))) pps_nil)))))))) (by rfl) (by rfl) (by simp) (by decide))), ?_⟩
    show tDisp (shC.map shTE) _ _ _
    exact disp_read (by decide) (by decide +kernel) fun d G kvs sG nd h1 h2 => go d G sG nd ⟨kvs, h1, h2⟩
end
end K4

set_option Elab.async false
set_option linter.all false
set_option maxRecDepth 100000
set_option maxHeartbeats 4000000
set_option autoImplicit false
/-! The law's own names, integers, lines. -/
namespace K4
open PySem L2 TL
def rNoSign : R2 := fun x y H Q => ∃ (c : Nat) (z : Str), x = .str ⟨#[c]⟩ ∧ y = .str z ∧ Q (.bl (!decide (c ∈ z.cps.toList))) H
theorem op_noSign {X : Cx} : OpR X (compareOp .NotIn) rNoSign := op_notIn_sign
theorem filter_zero {α : Type} (l : List α) (p : α → Bool) : ((l.filter fun c => !p c).length = 0) ↔ l.all p = true := by
  rw [List.length_eq_zero_iff, List.filter_eq_nil_iff, List.all_eq_true]
  constructor
  · intro h c hc
    have := h c hc
    cases q : p c with
    | true => rfl
    | false => rw [q] at this; exact absurd rfl this
  · intro h c hc
    rw [h c hc]
    exact Bool.false_ne_true
theorem filter_snoc {α : Type} {l : List α} {i : Nat} {u : α} (p : α → Bool) (h : l[i]? = some u) : (l.take (i + 1)).filter p = (l.take i).filter p ++ if p u = true then [u] else [] := by
  rw [take_snoc h, List.filter_append]
  congr 1
  cases q : p u <;> simp [q]
section
variable {P : Program} {w : World} {K : PySem.W.Frag} {mg : Str → Option Value} {base : Heap}
structure LawTxt (mg : Str → Option Value) : Prop where
  len : mg "len" = none
  int : mg "int" = none
  str : mg "str" = none
  tuple : mg "tuple" = none
  list : mg "list" = none
  range : mg "range" = none
  isinst : mg "isinstance" = none
theorem scLName : FnScope ["word", "small", "sign"] ["word"] (defScope sLName) := ⟨rfl, rfl, rfl, by decide +kernel, rfl, by decide +kernel, by decide +kernel⟩
theorem ok_lname {f : Addr} {fd : FuncData} (F : Fun K "_law_is_name" "_law_is_name" sLName f fd) (T : LawTxt mg) : FnOk P w K mg base CX0 1 f fd ["word"] spIsName := by
  refine F.ok scLName (fun vs H Q E h => ?_) (fun cdv A outer s H vs Q E hr h => ?_)
  · obtain ⟨x, rfl, _⟩ := h
    rfl
  · obtain ⟨x, rfl, lx, go⟩ := h
    refine ⟨_, pss_cons (ps_set (i := 1) scLName.nd rfl (Or.inr rfl) pe_str)
      (pss_one (ps_ret (pe_and (pe_chain op_le op_le pe_int (pe_callB call_len_str (by rfl) T.len PySem.boot_len (pa_cons (pv 0) pa_nil)) pe_int)
        (pe_one (pe_cmpR op_eq (pe_callB call_len_seq (by rfl) T.len PySem.boot_len (pa_cons (pe_lc (own := [("sign", 2)]) (g := gName 2) rfl scLName.nd (pi_str (pv 0)) (blkOk_by (own := [("sign", 2)]) (N := ["word", "small", "sign"]) (sc := defScope sLName) (by decide +kernel))
          (fun _ _ _ _ _ => pg_name (i := 2) scLName.nd rfl (Or.inl rfl)) (tt := tTest (tOp rNoSign (tVar 2) (tVar 1))) (fun _ _ _ _ _ => pts_one (pt_cmpR op_noSign (pv 2) (pv 1) (by rfl))) (fun _ _ _ _ _ => pv 2)) pa_nil)) pe_int (nomark _)))))), ?_⟩
    have l0 := len_tl x
    have bad : isNm x = false → Q (.bl false) H := fun e => by
      have := go H (Same.refl H)
      rw [e] at this
      exact this
    refine ⟨_, rfl, x, rfl, by rw [sizeLine_eq]; omega, _, _, rfl, rfl, _, rfl, ?_⟩
    by_cases h1 : 1 ≤ x.length
    · refine ifY (decide_eq_true (by omega)) ⟨_, _, rfl, rfl, _, rfl, ?_⟩
      by_cases h4 : x.length ≤ 4
      · rw [decide_eq_true (show (x.length : Int) ≤ 4 by omega)]
        refine ifY rfl ?_
        refine ⟨_, rfl, x, rfl, fun D nD => ?_⟩
        refine lc_it (walk_str (z := x)) (fun i G => Same H G ∧ G D = some (.lst ((((tl x).take i).filter fun c => !decide (c ∈ lets)).map fun c => V.str ⟨#[c]⟩))) ⟨same_new nD, upd_same⟩ (fun _ _ _ _ => trivial) (fun i v G G' hi ⟨sG, hD⟩ ⟨e, c, hc, ev⟩ => ?_) (fun G ⟨sG, hD⟩ => ?_)
        · subst e ev
          have hc' : (tl x)[i]? = some c := by simpa using hc
          have fs := filter_snoc (fun c => !decide (c ∈ lets)) hc'
          refine ⟨rfl, _, rfl, _, rfl, c, letsT, rfl, rfl, _, rfl, ?_⟩
          show if (!decide (c ∈ lets)) = true then _ else _
          cases q : decide (c ∈ lets) with
          | true =>
            rw [q] at fs
            refine ifN rfl ⟨sG, ?_⟩
            rw [fs, hD]
            simp
          | false =>
            rw [q] at fs
            refine ifY rfl ⟨_, rfl, _, hD, ?_, fun b o e => (upd_ne (ne_of_none e nD)).trans (sG b o e), ?_⟩
            · have h1 := List.length_filter_le (fun c => !decide (c ∈ lets)) ((tl x).take i)
              rw [List.length_take] at h1
              rw [List.length_map, sizeLine_eq]
              omega
            · rw [upd_same, fs, List.map_append]
              rfl
        · have : x.cps.size = (tl x).length := (len_tl x).symm
          rw [this, List.take_length] at hD
          refine ⟨D, _, rfl, .inl (SqL.of hD), rfl, ?_⟩
          have e : isNm x = decide (V.int (((((tl x).filter fun c => !decide (c ∈ lets)).map fun c => V.str ⟨#[c]⟩).length : Nat) : Int) = V.int 0) := by
            unfold isNm
            rw [decide_eq_true (by omega), decide_eq_true (by omega), Bool.true_and, Bool.true_and, List.length_map]
            have := filter_zero (tl x) fun c => decide (c ∈ lets)
            cases q : (tl x).all fun c => decide (c ∈ lets) with
            | true => rw [this.mpr q]; rfl
            | false =>
              refine (decide_eq_false fun z => ?_).symm
              have z2 := V.int.inj z
              rw [this.mp (by omega)] at q
              cases q
          rw [← e]
          exact go G sG
      · rw [decide_eq_false (show ¬ (x.length : Int) ≤ 4 by omega)]
        refine ifN rfl (bad ?_)
        unfold isNm
        rw [decide_eq_false (show ¬ (tl x).length ≤ 4 by omega), Bool.and_false, Bool.false_and]
    · refine ifN (decide_eq_false (by omega)) ⟨_, rfl, ifN rfl (bad ?_)⟩
      unfold isNm
      rw [decide_eq_false (show ¬ 1 ≤ (tl x).length by omega), Bool.false_and, Bool.false_and]
/-- the integer that the law reads -/
def spLInt : Sp := fun vs H Q _ => ∃ x : Str, vs = [.str x] ∧ x.length ≤ 1000000 ∧ ∀ H', Same H H' → Q (nuV x) H'
theorem okI_law (x : Str) : okI x = (((decide (1 ≤ (body (tl x)).length) && decide ((body (tl x)).length ≤ 9)) && (body (tl x)).all fun c => decide (c ∈ figs)) && !(decide ((body (tl x)).head? = some 48) && !decide (tl x = [48]))) := by
  unfold okI isFg
  by_cases e : tl x = [48]
  · rw [decide_eq_true e, e]
    decide +kernel
  · rw [decide_eq_false e, Bool.false_or, Bool.not_false, Bool.and_true]
    congr 1
    by_cases h : (body (tl x)).head? = some 48
    · rw [decide_eq_true h, decide_eq_false (fun q => q h)]; rfl
    · rw [decide_eq_false h, decide_eq_true h]; rfl
theorem tlm : tl ("-" : Str) = [45] := by decide +kernel
theorem scLInt : FnScope ["word", "figures", "sign"] ["word"] (defScope sLInt) := ⟨rfl, rfl, rfl, by decide +kernel, rfl, by decide +kernel, by decide +kernel⟩
theorem ok_lint {f : Addr} {fd : FuncData} (F : Fun K "_law_integer" "_law_integer" sLInt f fd) (T : LawTxt mg) : FnOk P w K mg base CX0 1 f fd ["word"] spLInt := by
  refine F.ok scLInt (fun vs H Q E h => ?_) (fun cdv A outer s H vs Q E hr h => ?_)
  · obtain ⟨x, rfl, _⟩ := h
    rfl
  · obtain ⟨x, rfl, lx, go⟩ := h
    refine ⟨_, pss_cons (ps_set (i := 1) scLInt.nd rfl (Or.inl rfl) (pe_slice sl_str (pv 0) (po_some (pe_callTy call_int1 (by rfl) T.int (by decide +kernel) (pa_cons (pe_cmpR op_eq (pe_slice sl_str (pv 0) po_none (po_some pe_int)) pe_str (nomark _)) pa_nil))) po_none))
      (pss_cons (ps_if (PW.pt (pw_or (pt_cmpR op_lt (pe_callB call_len_str (by rfl) T.len PySem.boot_len (pa_cons (pv 1) pa_nil)) pe_int (nomark _)) (pw_or (pt_cmpR op_gt (pe_callB call_len_str (by rfl) T.len PySem.boot_len (pa_cons (pv 1) pa_nil)) pe_int (nomark _))
          (pw_or1 (pt_cmpR op_gt (pe_callB call_len_seq (by rfl) T.len PySem.boot_len (pa_cons (pe_lc (own := [("sign", 2)]) (g := gName 2) rfl scLInt.nd (pi_str (pv 1)) (blkOk_by (own := [("sign", 2)]) (N := ["word", "figures", "sign"]) (sc := defScope sLInt) (by decide +kernel))
            (fun _ _ _ _ _ => pg_name (i := 2) scLInt.nd rfl (Or.inl rfl)) (tt := tTest (tOp rNoSign (tVar 2) (tC (.str "0123456789")))) (fun _ _ _ _ _ => pts_one (pt_cmpR op_noSign (pv 2) pe_str (by rfl))) (fun _ _ _ _ _ => pv 2)) pa_nil)) pe_int (nomark _)))))) (pss_one (ps_ret pe_non)) pss_nil)
      (pss_cons (ps_if (PW.pt (pw_and (pt_cmpR op_eq (pe_ix ix_str (pv 1) pe_int (fun _ _ => rfl)) pe_str (nomark _)) (pw_and1 (pt_cmpR op_ne (pv 0) pe_str (nomark _))))) (pss_one (ps_ret pe_non)) pss_nil)
      (pss_one (ps_ret (pe_callTy call_int_str (by rfl) T.int (by decide +kernel) (pa_cons (pv 0) pa_nil)))))), ?_⟩
    have bad : okI x = false → Q .non H := fun e => by
      have := go H (Same.refl H)
      unfold nuV at this
      rw [if_neg (by rw [e]; exact Bool.false_ne_true)] at this
      exact this
    have hb : decide (V.str (cutS x none (some 1)) = V.str "-") = decide ((tl x).head? = some 45) := dec_str (by rw [tl_cutTo1, tlm, head_take])
    obtain ⟨y, ey, ly, hy⟩ : ∃ y : Str, tl y = body (tl x) ∧ y.length ≤ 1000000 ∧ y = cutS x (some (if decide ((tl x).head? = some 45) = true then 1 else 0)) none := by
      unfold body
      by_cases m : (tl x).head? = some 45
      · rw [if_pos m, decide_eq_true m]
        exact ⟨_, tl_cut1 x, Nat.le_trans (cutS_length _ _ _) lx, rfl⟩
      · rw [if_neg m, decide_eq_false m]
        exact ⟨_, tl_cut0 x, Nat.le_trans (cutS_length _ _ _) lx, rfl⟩
    refine ⟨_, rfl, _, rfl, _, rfl, x, rfl, by rw [sizeLine_eq]; omega, rfl, .inr ⟨_, rfl, _, rfl, x, rfl, by rw [sizeLine_eq]; omega, ?_⟩⟩
    rw [hb, ← hy]
    have l0 := len_tl y
    have oki := okI_law x
    rw [← ey] at oki
    clear hb hy
    refine ⟨_, rfl, y, rfl, by rw [sizeLine_eq]; omega, _, _, rfl, rfl, _, rfl, ?_⟩
    by_cases h1 : (y.length : Int) < 1
    · refine ifY (decide_eq_true h1) (bad ?_)
      rw [oki, decide_eq_false (show ¬ 1 ≤ (tl y).length by omega), Bool.false_and, Bool.false_and, Bool.false_and]
    refine ifN (decide_eq_false h1) ⟨_, rfl, y, rfl, by rw [sizeLine_eq]; omega, _, _, rfl, rfl, _, rfl, ?_⟩
    by_cases h9 : (9 : Int) < (y.length : Int)
    · refine ifY (decide_eq_true h9) (bad ?_)
      rw [oki, decide_eq_false (show ¬ (tl y).length ≤ 9 by omega), Bool.and_false, Bool.false_and, Bool.false_and]
    refine ifN (decide_eq_false h9) ⟨_, rfl, y, rfl, fun D nD => ?_⟩
    rw [decide_eq_true (show 1 ≤ (tl y).length by omega), decide_eq_true (show (tl y).length ≤ 9 by omega), Bool.true_and, Bool.true_and] at oki
    refine lc_it (walk_str (z := y)) (fun i G => Same H G ∧ G D = some (.lst ((((tl y).take i).filter fun c => !decide (c ∈ figs)).map fun c => V.str ⟨#[c]⟩))) ⟨same_new nD, upd_same⟩ (fun _ _ _ _ => trivial) (fun i v G G' hi ⟨sG, hD⟩ ⟨e, c, hc, ev⟩ => ?_) (fun G ⟨sG, hD⟩ => ?_)
    · subst e ev
      have hc' : (tl y)[i]? = some c := by simpa using hc
      have fs := filter_snoc (fun c => !decide (c ∈ figs)) hc'
      refine ⟨rfl, _, rfl, c, figsT, rfl, rfl, _, rfl, ?_⟩
      show if (!decide (c ∈ figs)) = true then _ else _
      cases q : decide (c ∈ figs) with
      | true =>
        rw [q] at fs
        refine ifN rfl ⟨sG, ?_⟩
        rw [fs, hD]
        simp
      | false =>
        rw [q] at fs
        refine ifY rfl ⟨_, rfl, _, hD, ?_, fun b o e => (upd_ne (ne_of_none e nD)).trans (sG b o e), ?_⟩
        · have h1 := List.length_filter_le (fun c => !decide (c ∈ figs)) ((tl y).take i)
          rw [List.length_take] at h1
          rw [List.length_map, sizeLine_eq]
          omega
        · rw [upd_same, fs, List.map_append]
          rfl
    · have : y.cps.size = (tl y).length := (len_tl y).symm
      rw [this, List.take_length] at hD
      have fz := filter_zero (tl y) fun c => decide (c ∈ figs)
      refine ⟨D, _, rfl, .inl (SqL.of hD), _, _, rfl, rfl, _, rfl, ?_⟩
      have badG : okI x = false → Q .non G := fun e => by
        have := go G sG
        unfold nuV at this
        rw [if_neg (by rw [e]; exact Bool.false_ne_true)] at this
        exact this
      by_cases af : (tl y).all (fun c => decide (c ∈ figs)) = true
      · refine ifN (decide_eq_false ?_) ?_
        · rw [List.length_map, fz.mpr af]
          decide
        rw [af, Bool.true_and] at oki
        obtain ⟨c, r, ec⟩ : ∃ c r, tl y = c :: r := by
          cases q : tl y with
          | nil => rw [q] at l0; simp at l0; omega
          | cons c r => exact ⟨c, r, rfl⟩
        have e48 : decide (V.str ⟨#[c]⟩ = V.str "0") = decide ((tl y).head? = some 48) := dec_str (by rw [tl0, ec]; show [c] = [48] ↔ _; simp)
        have ex48 : (!decide (V.str x = V.str "0")) = !decide (tl x = [48]) := by rw [dec_str (p := tl x = [48]) (by rw [tl0])]
        refine ⟨_, rfl, _, _, c, rfl, rfl, by rw [sizeLine_eq]; omega, (show atI _ ((0 : Nat) : Int) = some c from atI_nat (by rw [show y.cps.toList = c :: r from ec]; rfl)), rfl, _, rfl, ?_⟩
        rw [e48]
        have fin : okI x = true → ∃ a n, [V.str x] = [V.str a] ∧ PySem.intText? a = some n ∧ a.length ≤ 640 ∧ Q (.int n) G := fun ok => by
          obtain ⟨e1, e2⟩ := okI_int ok
          have := go G sG
          unfold nuV at this
          rw [if_pos ok] at this
          exact ⟨x, _, rfl, e1, by omega, this⟩
        by_cases h0 : (tl y).head? = some 48
        · rw [decide_eq_true h0] at oki ⊢
          refine ifY rfl ⟨_, rfl, rfl, _, rfl, ?_⟩
          rw [ex48]
          rw [Bool.true_and, Bool.not_not] at oki
          cases z : decide (tl x = [48]) with
          | true =>
            rw [z] at oki
            exact ifN rfl ⟨_, rfl, fin oki⟩
          | false =>
            rw [z] at oki
            exact ifY rfl (badG oki)
        · rw [decide_eq_false h0] at oki ⊢
          exact ifN rfl ⟨_, rfl, fin oki⟩
      · refine ifY (decide_eq_true ?_) (badG ?_)
        · rw [List.length_map]
          have : ¬ ((tl y).filter fun c => !decide (c ∈ figs)).length = 0 := fun z => af (fz.mp z)
          omega
        · rw [oki, Bool.eq_false_iff.mpr af, Bool.false_and]
theorem scLine : FnScope ["parts", "part"] ["parts"] (defScope sLine) := ⟨rfl, rfl, rfl, by decide +kernel, rfl, by decide +kernel, by decide +kernel⟩
theorem ok_line {f : Addr} {fd : FuncData} (F : Fun K "_law_line" "_law_line" sLine f fd) (T : LawTxt mg) : FnOk P w K mg base CX0 1 f fd ["parts"] (spText K) := by
  refine F.ok scLine (fun vs H Q E h => ?_) (fun cdv A outer s H vs Q E hr h => ?_)
  · obtain ⟨a, xs, ys, rfl, _⟩ := h
    rfl
  · obtain ⟨a, xs, ys, rfl, hq, sh, l, ls, go⟩ := h
    refine ⟨_, pss_one (ps_ret (pe_join pe_str (pe_lc (own := [("part", 1)]) (g := gName 1) (te := tCB rStr (tCons (tVar 1) tNil)) rfl scLine.nd (pi_tup (pv 0)) (blkOk_by (own := [("part", 1)]) (N := ["parts", "part"]) (sc := defScope sLine) (by decide +kernel))
        (fun _ _ _ _ _ => pg_name (i := 1) scLine.nd rfl (Or.inl rfl)) (fun _ _ _ _ _ => pts_nil) (fun _ _ _ _ _ => pe_callTy call_str (by rfl) T.str (by decide +kernel) (pa_cons (pv 1) pa_nil))))), ?_⟩
    refine ⟨⟨_, rfl⟩, _, rfl, a, rfl, ⟨_, hq⟩, fun D nD => ?_⟩
    refine text_read hq sh l nD (fun G sG hD => ?_) (fun v G R q => ⟨rfl, _, rfl, q⟩)
    refine ⟨_, D, ys, rfl, rfl, .inl (SqL.of hD), ?_, go G sG⟩
    rw [show ((" " : Str).length) = 1 from by decide +kernel]
    omega
end
end K4

set_option Elab.async false
set_option linter.all false
set_option maxRecDepth 100000
set_option maxHeartbeats 4000000
set_option autoImplicit false
/-! What is due. -/
namespace K4
open PySem L2 TL
abbrev sFormed : Stmt := top 32
theorem cut_mid (v : V) (vs : List V) (n : Nat) : cutV (v :: vs) (some 1) (some (1 + (n : Int))) = vs.take n := by
  unfold cutV
  rw [show (1 + (n : Int)) = ((1 + n : Nat) : Int) by omega, show HT.sIx (v :: vs).length 0 (some 1) = min 1 (v :: vs).length from HT.sIx_nat _ _ 1, HT.sIx_nat, List.length_cons]
  rw [show min 1 (vs.length + 1) = 1 by omega, List.drop_succ_cons, List.drop_zero]
  rw [List.take_eq_take_iff]
  omega
theorem cut_end (v : V) (vs : List V) (n : Nat) (h : n ≤ vs.length) : cutV (v :: vs) (some (1 + (n : Int))) none = vs.drop n := by
  unfold cutV
  rw [show (1 + (n : Int)) = ((1 + n : Nat) : Int) by omega, HT.sIx_nat, HT.sIx_none, List.length_cons, show min (1 + n) (vs.length + 1) = n + 1 by omega, List.drop_succ_cons]
  exact List.take_of_length_le (by rw [List.length_drop]; omega)
theorem cut_to (v : V) (vs : List V) (n : Nat) : cutV (v :: vs) none (some (1 + (n : Int))) = v :: vs.take n := by
  unfold cutV
  rw [show (1 + (n : Int)) = ((1 + n : Nat) : Int) by omega, HT.sIx_nat, HT.sIx_none, List.drop_zero, Nat.sub_zero, List.length_cons, show min (1 + n) (vs.length + 1) = min n vs.length + 1 by omega, List.take_succ_cons]
  congr 1
  rw [List.take_eq_take_iff]
  omega
def spFormed (b : Bool) : Sp := fun vs H Q _ => ∃ (y : Str) (d : Addr), vs = [.str y, .ref d] ∧ ShapesAt H b d ∧ y.length ≤ 100000 ∧ (∀ us, due b y = some us → ∀ (p : Addr) (G : Hp), Same H G → H p = none → G p = some (.tup us) → Q (.ref p) G) ∧ (due b y = none → ∀ G, Same H G → Q .non G)
structure FormTxt (P : Program) (w : World) (K : PySem.W.Frag) (mg : Str → Option Value) (base : Heap) (fN fI : Addr) (dN dI : FuncData) : Prop where
  okN : FnOk P w K mg base CX0 1 fN dN ["word"] spIsName
  bN : Binds K dN ["word"] []
  gN : mg "_law_is_name" = some (.ref fN)
  kN : PySem.W.keepIn K (.ref fN) = true
  okI : FnOk P w K mg base CX0 1 fI dI ["word"] spLInt
  bI : Binds K dI ["word"] []
  gI : mg "_law_integer" = some (.ref fI)
  kI : PySem.W.keepIn K (.ref fI) = true
section
variable {P : Program} {w : World} {K : PySem.W.Frag} {mg : Str → Option Value} {base : Heap} {fN fI : Addr} {dN dI : FuncData}
theorem scFormed : FnScope ["text", "shapes", "words", "names", "integers", "word", "numbers"] ["text", "shapes"] (defScope sFormed) := ⟨rfl, rfl, rfl, by decide +kernel, rfl, by decide +kernel, by decide +kernel⟩
theorem map_str_at {ns : List Str} {i : Nat} {y : V} (h : (ns.map V.str)[i]? = some y) : ∃ u, y = V.str u ∧ ns[i]? = some u := by
  rw [List.getElem?_map] at h
  cases e : ns[i]? with
  | none => rw [e] at h; cases h
  | some u => rw [e] at h; exact ⟨u, (Option.some.inj h).symm, rfl⟩
theorem ok_formed {b : Bool} {f : Addr} {fd : FuncData} (F : Fun K "_law_formed" "_law_formed" sFormed f fd) (T : LawTxt mg) (U : FormTxt P w K mg base fN fI dN dI) : FnOk P w K mg base CX0 2 f fd ["text", "shapes"] (spFormed b) := by
  refine F.ok scFormed (fun vs H Q E h => ?_) (fun cdv A outer s H vs Q E hr h => ?_)
  · obtain ⟨y, d, rfl, _⟩ := h
    rfl
  · obtain ⟨y, d, rfl, hs, ly, yes, no⟩ := h
    have hu := hu_of hr
    refine ⟨_, pss_cons (ps_set (i := 2) scFormed.nd rfl (Or.inl rfl) (pe_split (pv 0) pe_str))
      (pss_cons (ps_if (pt_cmp (pc_dnotin hu (pe_ix ix_list (pv 2) pe_int (fun _ _ => rfl)) (pv 1))) (pss_one (ps_ret pe_non)) pss_nil)
      (pss_cons (ps_asg (pe_dget hu (pv 1) (pe_ix ix_list (pv 2) pe_int (fun _ _ => rfl)) (fun _ _ => rfl)) (pg_tup (by rfl) (pgs_cons (pg_name (i := 3) scFormed.nd rfl (Or.inl rfl)) (pgs_cons (pg_name (i := 4) scFormed.nd rfl (Or.inl rfl)) pgs_nil))))
      (pss_cons (ps_if (pt_cmpR op_ne (pe_callB call_len_seq (by rfl) T.len PySem.boot_len (pa_cons (pv 2) pa_nil)) (pe_op op_add (pe_op op_add pe_int (pv 3)) (pv 4)) (nomark _)) (pss_one (ps_ret pe_non)) pss_nil)
      (pss_cons (ps_if (pt_cmpR op_gt (pe_callB call_len_seq (by rfl) T.len PySem.boot_len (pa_cons (pe_lc (own := [("word", 5)]) (g := gName 5) rfl scFormed.nd (pi_list (pe_slice sl_list (pv 2) (po_some pe_int) (po_some (pe_op op_add pe_int (pv 3)))))
          (blkOk_by (own := [("word", 5)]) (N := ["text", "shapes", "words", "names", "integers", "word", "numbers"]) (sc := defScope sFormed) (by decide +kernel)) (fun _ _ _ _ _ => pg_name (i := 5) scFormed.nd rfl (Or.inl rfl))
          (tt := tNot (tTest (tCall spIsName [] E0 (tCons (tVar 5) tNil)))) (fun _ _ _ _ _ => pts_one (pt_not (pt_val (pe_call U.okN hr (by rfl) U.gN U.kN U.bN .nil pass0 (pa_cons (pv 5) pa_nil))))) (fun _ _ _ _ _ => pv 5)) pa_nil)) pe_int (nomark _)) (pss_one (ps_ret pe_non)) pss_nil)
      (pss_cons (ps_setLc (i := 6) (own := [("word", 5)]) (g := gName 5) rfl scFormed.nd rfl rfl (sw_true rfl rfl rfl (by decide +kernel)) (pi_list (pe_slice sl_list (pv 2) (po_some (pe_op op_add pe_int (pv 3))) po_none))
          (blkOk_by (own := [("word", 5)]) (N := ["text", "shapes", "words", "names", "integers", "word", "numbers"]) (sc := defScope sFormed) (by decide +kernel)) (fun _ _ _ _ _ => pg_name (i := 5) scFormed.nd rfl (Or.inl rfl)) (fun _ _ _ _ _ => pts_nil)
          (fun _ _ _ _ _ => pe_call U.okI hr (by rfl) U.gI U.kI U.bI .nil pass0 (pa_cons (pv 5) pa_nil)))
      (pss_cons (ps_if (pt_cmpR op_in_seq pe_non (pv 6) (by rfl)) (pss_one (ps_ret pe_non)) pss_nil)
      (pss_one (ps_ret (pe_callTy call_tuple_of (by rfl) T.tuple (by decide +kernel) (pa_cons (pe_op op_cat (pe_slice sl_list (pv 2) po_none (po_some (pe_op op_add pe_int (pv 3)))) (pv 6)) pa_nil)))))))))), ?_⟩
    obtain ⟨z, r, er⟩ := split_ne y
    obtain ⟨w1, w2, w3⟩ := split_len y
    unfold due at yes no
    rw [er] at w1 w2 w3 yes no
    obtain ⟨kvs, hd, sh⟩ := hs
    refine ⟨_, rfl, ⟨_, rfl⟩, _, _, rfl, rfl, by decide +kernel, by rw [sizeLine_eq]; omega, fun a na => ?_⟩
    rw [er]
    have s1 : Same H (upd H a (.lst ((z :: r).map V.str))) := same_new na
    have a1 : upd H a (.lst ((z :: r).map V.str)) a = some (.lst ((z :: r).map V.str)) := upd_same
    generalize upd H a (.lst ((z :: r).map V.str)) = G1 at s1 a1 ⊢
    have hd1 := s1 _ _ hd
    have sh1 := sh.up s1
    have z0 : atI ((z :: r).map V.str) 0 = some (V.str z) := (show atI _ ((0 : Nat) : Int) = some (V.str z) from atI_nat rfl)
    refine ⟨_, rfl, a, _, _, _, rfl, rfl, SqL.of a1, z0, _, rfl, d, _, rfl, DGet.k (k := Sum.inr z) hd1, ?_⟩
    rcases sh1.val z with ⟨e1, e2⟩ | ⟨n, k, t, e1, e2, ht⟩
    · rw [e2]
      exact ⟨_, rfl, ifY rfl (no (formed_none e1 r) G1 s1)⟩
    · rw [e2]
      refine ⟨_, rfl, ifN rfl ?_⟩
      obtain ⟨n1, n6, k2⟩ := shape_lim (b := b) e1
      rw [told_formed (show shapeOf b z = some (n, k) from e1)] at yes no
      refine ⟨_, rfl, _, rfl, a, _, _, _, rfl, rfl, SqL.of a1, z0, d, _, rfl, (by rw [← e2]; exact DGet.k (k := Sum.inr z) hd1), ?_⟩
      refine ⟨t, _, rfl, SqT.of ht, rfl, _, _, rfl, _, _, rfl, rfl, ?_⟩
      refine ⟨_, rfl, a, _, rfl, .inl (SqL.of a1), _, rfl, _, _, rfl, rfl, _, rfl, _, _, rfl, rfl, rfl, _, rfl, ?_⟩
      by_cases hl : r.length = n + k
      · refine ifN ?_ ?_
        · rw [decide_eq_true]
          · rfl
          · rw [List.length_map, List.length_cons]
            congr 1
            omega
        refine ⟨_, rfl, _, rfl, _, rfl, _, _, rfl, rfl, _, rfl, a, _, rfl, SqL.of a1, fun p np => ?_⟩
        have ep : cutV ((z :: r).map V.str) (some 1) (some (1 + (n : Int))) = (r.take n).map V.str := (cut_mid _ _ _).trans List.map_take.symm
        rw [ep]
        have s2 : Same H (upd G1 p (.lst ((r.take n).map V.str))) := s1.trans (same_new np)
        have p2 : upd G1 p (.lst ((r.take n).map V.str)) p = some (.lst ((r.take n).map V.str)) := upd_same
        have a2 : upd G1 p (.lst ((r.take n).map V.str)) a = some (.lst ((z :: r).map V.str)) := (upd_ne (ne_of_none a1 np)).trans a1
        generalize upd G1 p (.lst ((r.take n).map V.str)) = G2 at s2 p2 a2 ⊢
        refine ⟨p, rfl, ⟨_, SqL.of p2⟩, fun L nL => ?_⟩
        have lt_ : (r.take n).length = n := by rw [List.length_take]; omega
        have wl : ∀ x ∈ r, x.length ≤ 1000000 := fun x hx => by
          have := w3 x (List.mem_cons_of_mem _ hx)
          omega
        refine lc_list (K := K) (a := p) (xs := (r.take n).map V.str) (fun i G => Same G2 G ∧ G L = some (.lst ((((r.take n).take i).filter fun x => !isNm x).map V.str))) ⟨same_new nL, upd_same⟩ (fun i G _ h => h.1.seq (SqL.of p2)) (fun i v G hi ⟨sG, hL⟩ => ?_) (fun G ⟨sG, hL⟩ => ?_)
        · obtain ⟨x, rfl, hx⟩ := map_str_at hi
          have fs := filter_snoc (fun x => !isNm x) hx
          have li : i < (r.take n).length := (List.getElem?_eq_some_iff.mp hx).1
          refine ⟨rfl, _, rfl, x, rfl, wl x (List.mem_of_mem_take (List.mem_of_getElem? hx)), fun G3 s3 => ⟨_, rfl, ?_⟩⟩
          have sG3 : Same G2 G3 := sG.trans s3
          have hL3 := s3 _ _ hL
          show if (!isNm x) = true then _ else _
          cases q : isNm x with
          | true =>
            rw [q] at fs
            refine ifN rfl ⟨sG3, ?_⟩
            rw [fs, hL3]
            simp
          | false =>
            rw [q] at fs
            refine ifY rfl ⟨_, rfl, _, hL3, ?_, fun b o e => (upd_ne (ne_of_none e nL)).trans (sG3 b o e), ?_⟩
            · have h1 := List.length_filter_le (fun x => !isNm x) ((r.take n).take i)
              rw [List.length_take] at h1
              rw [List.length_map, sizeLine_eq]
              omega
            · rw [upd_same, fs, List.map_append]
              rfl
        · rw [List.length_map, List.take_length] at hL
          have fz := filter_zero (r.take n) isNm
          have s3 : Same H G := s2.trans sG
          have a3 := sG _ _ a2
          refine ⟨L, _, rfl, .inl (SqL.of hL), _, _, rfl, rfl, _, rfl, ?_⟩
          by_cases an : (r.take n).all isNm = true
          · refine ifN (decide_eq_false ?_) ?_
            · rw [List.length_map, fz.mpr an]
              decide
            refine ⟨_, rfl, _, rfl, _, _, rfl, rfl, _, rfl, a, _, rfl, SqL.of a3, fun p' np' => ?_⟩
            have ep' : cutV ((z :: r).map V.str) (some (1 + (n : Int))) none = (r.drop n).map V.str := (cut_end _ _ _ (by rw [List.length_map]; omega)).trans List.map_drop.symm
            rw [ep']
            have s4 : Same H (upd G p' (.lst ((r.drop n).map V.str))) := s3.trans (same_new np')
            have p4 : upd G p' (.lst ((r.drop n).map V.str)) p' = some (.lst ((r.drop n).map V.str)) := upd_same
            have a4 : upd G p' (.lst ((r.drop n).map V.str)) a = some (.lst ((z :: r).map V.str)) := (upd_ne (ne_of_none a3 np')).trans a3
            generalize upd G p' (.lst ((r.drop n).map V.str)) = G4 at s4 p4 a4 ⊢
            have ld : (r.drop n).length = k := by rw [List.length_drop]; omega
            refine ⟨p', rfl, ⟨_, SqL.of p4⟩, fun M nM => ?_⟩
            refine lc_list (K := K) (a := p') (xs := (r.drop n).map V.str) (fun i G => Same G4 G ∧ G M = some (.lst (((r.drop n).take i).map nuV))) ⟨same_new nM, upd_same⟩ (fun i G _ h => h.1.seq (SqL.of p4)) (fun i v G hi ⟨sG, hM⟩ => ?_) (fun G ⟨sG, hM⟩ => ?_)
            · obtain ⟨x, rfl, hx⟩ := map_str_at hi
              have li : i < (r.drop n).length := (List.getElem?_eq_some_iff.mp hx).1
              refine ⟨rfl, _, rfl, x, rfl, wl x (List.mem_of_mem_drop (List.mem_of_getElem? hx)), fun G5 s5 => ⟨_, s5 _ _ hM, ?_, fun b o e => (upd_ne (ne_of_none e nM)).trans (s5 _ _ (sG _ _ e)), ?_⟩⟩
              · rw [List.length_map, List.length_take, sizeLine_eq]
                omega
              · rw [upd_same, take_snoc hx, List.map_append]
                rfl
            · rw [List.length_map, List.take_length] at hM
              have s5 : Same H G := s4.trans sG
              have a5 := sG _ _ a4
              have fa : ((r.drop n).map nuV).all flatV = true := by
                rw [List.all_map, List.all_eq_true]
                intro x _
                show flatV (nuV x) = true
                unfold nuV
                split <;> rfl
              have ni := none_in [] (r.drop n)
              rw [List.map_nil, List.nil_append, List.all_nil, Bool.true_and] at ni
              refine ⟨_, rfl, M, _, rfl, .inl (SqL.of hM), rfl, fa, _, rfl, ?_⟩
              rw [if_neg Bool.false_ne_true, ni]
              cases q : (r.drop n).all okI with
              | false =>
                refine ifY rfl (no ?_ G s5)
                unfold told
                rw [if_neg]
                rintro ⟨_, _, q2⟩
                rw [q2] at q
                cases q
              | true =>
                refine ifN rfl ?_
                rw [nums_all q] at hM
                refine ⟨_, rfl, _, rfl, _, _, rfl, rfl, _, rfl, a, _, rfl, SqL.of a5, fun c nc => ?_⟩
                have ec : cutV ((z :: r).map V.str) none (some (1 + (n : Int))) = V.str z :: (r.take n).map V.str := by
                  rw [List.map_cons, cut_to, List.map_take]
                rw [ec]
                refine ⟨_, rfl, c, M, _, _, rfl, rfl, upd_same, (upd_ne (ne_of_none hM nc)).trans hM, ?_, fun e ne => ?_⟩
                · rw [List.length_cons, List.length_map, List.length_map, sizeLine_eq]
                  omega
                have s7 := (s5.trans (same_new nc)).trans (same_new (o := .lst (V.str z :: (r.take n).map V.str ++ (r.drop n).map fun x => V.int (valI x))) ne)
                refine ⟨e, _, rfl, .inl ⟨SqL.of upd_same, fun g ng => ?_⟩⟩
                refine yes _ ?_ g _ (s7.trans (same_new ng)) (s7.free ng) upd_same
                unfold told
                rw [if_pos ⟨hl, an, q⟩]
                rfl
          · refine ifY (decide_eq_true ?_) (no ?_ G s3)
            · rw [List.length_map]
              have : ¬ ((r.take n).filter fun x => !isNm x).length = 0 := fun z => an (fz.mp z)
              omega
            · unfold told
              rw [if_neg fun h => an h.2.1]
      · refine ifY ?_ (no ?_ G1 s1)
        · rw [decide_eq_false]
          · rfl
          · rw [List.length_map, List.length_cons]
            intro e
            have := V.int.inj e
            omega
        · unfold told
          rw [if_neg fun h => hl h.1]
end
end K4

set_option Elab.async false
set_option linter.all false
set_option maxRecDepth 100000
set_option maxHeartbeats 4000000
set_option autoImplicit false
/-! The names drawn. -/
namespace K4
open PySem L2 TL
abbrev sNames : Stmt := top 27
/-- small letters alone -/
def Lw (x : Str) : Prop := ∀ c ∈ tl x, c ∈ lets
theorem Lw.app {x y : Str} (h : Lw x) (g : Lw y) : Lw (x ++ y) := fun c hc => by
  rw [tl_append] at hc
  exact (List.mem_append.mp hc).elim (h c) (g c)
theorem nm_of {x : Str} (h : Lw x) (h1 : 1 ≤ x.length) (h4 : x.length ≤ 4) : isNm x = true := by
  have := len_tl x
  unfold isNm
  rw [decide_eq_true (by omega), decide_eq_true (by omega)]
  exact List.all_eq_true.mpr fun c hc => decide_eq_true (h c hc)
theorem joinE_L : ∀ ps : List (List Nat), joinL [] ps = ps.flatten
  | [] => rfl
  | [p] => by simp [joinL]
  | p :: q :: r => by
    show p ++ ([] ++ joinL [] (q :: r)) = _
    rw [joinE_L (q :: r)]
    simp
theorem joinE {ys : List Str} (h : ∀ y ∈ ys, Lw y ∧ y.length = 1) : Lw (Txt.join "" ys) ∧ (Txt.join "" ys).length = ys.length := by
  have e : tl (Txt.join "" ys) = (ys.map tl).flatten := by rw [join_eq, tl_join, show tl ("" : Str) = [] from by decide +kernel, joinE_L]
  refine ⟨fun c hc => ?_, ?_⟩
  · rw [e] at hc
    obtain ⟨l, hl, hc⟩ := List.mem_flatten.mp hc
    obtain ⟨y, hy, rfl⟩ := List.mem_map.mp hl
    exact (h y hy).1 c hc
  · rw [← len_tl, e]
    clear e
    induction ys with
    | nil => rfl
    | cons y ys ih =>
      rw [List.map_cons, List.flatten_cons, List.length_append, ih fun z hz => h z (List.mem_cons_of_mem _ hz), len_tl, (h y List.mem_cons_self).2, List.length_cons]
      omega
theorem sum_ones {ys : List Str} (h : ∀ y ∈ ys, Lw y ∧ y.length = 1) : (ys.map (·.length)).sum = ys.length := by
  induction ys with
  | nil => rfl
  | cons y ys ih =>
    rw [List.map_cons, List.sum_cons, ih fun z hz => h z (List.mem_cons_of_mem _ hz), (h y List.mem_cons_self).2, List.length_cons]
    omega
theorem map_erase {α β : Type} (f : α → β) : ∀ (l : List α) (j : Nat), (l.map f).eraseIdx j = (l.eraseIdx j).map f
  | [], _ => rfl
  | x :: l, 0 => rfl
  | x :: l, j + 1 => by rw [List.map_cons, List.eraseIdx_cons_succ, List.eraseIdx_cons_succ, List.map_cons, map_erase f l j]
theorem letter_at {z : Int} (h0 : 0 ≤ z) (h : z < 26) : ∃ c, atI letsT.cps.toList z = some c ∧ c ∈ lets := by
  obtain ⟨j, rfl⟩ := Int.eq_ofNat_of_zero_le h0
  have hl : lets.length = 26 := by decide +kernel
  have : j < lets.length := by omega
  exact ⟨lets[j], atI_nat (List.getElem?_eq_getElem this), List.getElem_mem _⟩
theorem lw_one {c : Nat} (h : c ∈ lets) : Lw ⟨#[c]⟩ ∧ (⟨#[c]⟩ : Str).length = 1 := ⟨fun d hd => by
  have : d = c := by simpa using hd
  rw [this]; exact h, rfl⟩
def spNames : Sp := fun vs H Q _ => ∃ p g c : Addr, vs = [.ref p, .int 4] ∧ BagL H p g c ∧ ∀ (l : Addr) (ns : List Str) (G : Hp), BagL G p g c → Bt p g H G → H l = none → G l = some (.lst (ns.map V.str)) → ns.length = 4 → (∀ x ∈ ns, isNm x = true) → Q (.ref l) G
structure DrawTxt (P : Program) (w : World) (K : PySem.W.Frag) (mg : Str → Option Value) (base : Heap) (fD : Addr) (dD : FuncData) : Prop where
  ok : FnOk P w K mg base CX0 1 fD dD ["bag", "many"] spDraw
  b : Binds K dD ["bag", "many"] []
  g : mg "_law_draw" = some (.ref fD)
  k : PySem.W.keepIn K (.ref fD) = true
section
variable {P : Program} {w : World} {K : PySem.W.Frag} {mg : Str → Option Value} {base : Heap} {fD : Addr} {dD : FuncData}
/-- [letters[draw] for k in range(n)] -/
theorem letters_read {g : TG} {te : TE} {vs : List Nat} {σ : L2.St} {H : Hp} {D p gg c : Addr} {n : Nat} {Qd : Hp → Prop} (nD : H D = none) (hb : BagL H p gg c) (hn : n ≤ 10)
    (turn : ∀ (i : Nat) (G : Hp) (R : VK), BagL G p gg c → (∀ ch G', ch ∈ lets → BagL G' p gg c → Bt p gg G G' → R (.str ⟨#[ch]⟩) G') → g (.int (0 + i)) (wipe σ vs) G fun σ2 H2 => wipe σ2 vs = wipe σ vs ∧ te σ2 H2 R)
    (done : ∀ (G : Hp) (ys : List Str), BagL G p gg c → Bt p gg H G → G D = some (.lst (ys.map V.str)) → ys.length = n → (∀ y ∈ ys, Lw y ∧ y.length = 1) → Qd G) :
    ∃ W : Nat → Nat → Hp → Prop, (∃ m, W 0 m (upd H D (.lst []))) ∧ ∀ i m H, W i m H →
      ((Itr 0 n).stop i H ∧ Qd H) ∨ ((Itr 0 n).go i H ∧ ∃ Nx : Hp → Prop, (∀ H', Nx H' → ∃ m', m' < m ∧ W (i + 1) m' H') ∧ ∀ x H', (Itr 0 n).yld i H x H' → g x (wipe σ vs) H' fun σ2 H2 => wipe σ2 vs = wipe σ vs ∧ tYes σ2 H2 fun b H3 =>
        if b = true then te σ2 H3 fun y H4 => ∃ acc, H4 D = some (.lst acc) ∧ acc.length < sizeLine ∧ Nx (upd H4 D (.lst (acc ++ [y]))) else Nx H3) := by
  obtain ⟨Dp, Dg, Dc⟩ := hb.ne nD
  refine lc_range (lo := 0) (n := n) (fun i G => BagL G p gg c ∧ Bt p gg H G ∧ ∃ ys : List Str, G D = some (.lst (ys.map V.str)) ∧ ys.length = i ∧ ∀ y ∈ ys, Lw y ∧ y.length = 1) ⟨hb.up nD, Bt.new nD, [], upd_same, rfl, fun y hy => nomatch hy⟩ (fun i G hi ⟨bG, tG, ys, h1, h2, h3⟩ => ?_) (fun G ⟨bG, tG, ys, h1, h2, h3⟩ => done G ys bG tG h1 h2 h3)
  refine turn i G (fun y H4 => ∃ acc, H4 D = some (.lst acc) ∧ acc.length < sizeLine ∧ _) bG fun ch G' hc bG' tG' => ⟨ys.map V.str, tG' _ _ Dp Dg h1, ?_, bG'.set Dp Dg Dc, (tG.trans tG').set nD, ys ++ [⟨#[ch]⟩], ?_, ?_, fun y hy => ?_⟩
  · rw [List.length_map, sizeLine_eq]
    omega
  · rw [upd_same, List.map_append]
    rfl
  · rw [List.length_append, h2]
    rfl
  · rcases List.mem_append.mp hy with hy | hy
    · exact h3 y hy
    · rw [List.mem_singleton.mp hy]
      exact lw_one hc
theorem scNames : FnScope ["bag", "many", "letters", "pool", "k", "ahead", "behind"] ["bag", "many"] (defScope sNames) := ⟨rfl, rfl, rfl, by decide +kernel, rfl, by decide +kernel, by decide +kernel⟩
def rLenS (K : PySem.W.Frag) : List V → Hp → VK → Prop := fun xs H Q => ∃ p ys, xs = [.ref p] ∧ (SqL K H p ys ∨ SqT K H p ys) ∧ Q (.int ys.length) H
theorem call_lenS {X : Cx} : CallR X (.builtin "len") (rLenS X.K) := call_len_seq
abbrev tDraw (bag : TE) (n : TE) : TE := tCall spDraw [] E0 (tCons bag (tCons n tNil))
theorem ok_names {f : Addr} {fd : FuncData} (F : Fun K "_law_names" "_law_names" sNames f fd) (T : LawTxt mg) (U : DrawTxt P w K mg base fD dD) : FnOk P w K mg base CX0 2 f fd ["bag", "many"] spNames := by
  refine F.ok scNames (fun vs H Q E h => ?_) (fun cdv A outer s H vs Q E hr h => ?_)
  · obtain ⟨p, g, c, rfl, _⟩ := h
    rfl
  · obtain ⟨p, g, c, rfl, hb, go⟩ := h
    refine ⟨_, pss_cons (ps_set (i := 2) scNames.nd rfl (Or.inr rfl) pe_str)
      (pss_cons (ps_set (i := 3) scNames.nd rfl (Or.inr rfl) (pe_callTy (call_listS rfl) (by rfl) T.list (by decide +kernel) (pa_cons (pv 2) pa_nil)))
      (pss_cons (ps_set (i := 5) scNames.nd rfl (Or.inr rfl) (pe_join pe_str (pe_lc (own := [("k", 4)]) (g := gName 4) (te := tOp rIxS (tVar 2) (tDraw (tVar 0) (tC (.int 26)))) rfl scNames.nd
          (pi_range1 (by rfl) T.range (pa_cons (pe_call U.ok hr rfl U.g U.k U.b .nil pass0 (pa_cons (pv 0) (pa_cons pe_int pa_nil))) pa_nil))
          (blkOk_by (own := [("k", 4)]) (N := ["bag", "many", "letters", "pool", "k", "ahead", "behind"]) (sc := defScope sNames) (by decide +kernel)) (fun _ _ _ _ _ => pg_name (i := 4) scNames.nd rfl (Or.inl rfl)) (fun _ _ _ _ _ => pts_nil)
          (fun _ _ _ _ _ => pe_ix ix_str (pv 2) (pe_call U.ok hr (by rfl) U.g U.k U.b .nil pass0 (pa_cons (pv 0) (pa_cons pe_int pa_nil))) (fun _ _ => rfl)))))
      (pss_cons (ps_set (i := 6) scNames.nd rfl (Or.inr rfl) (pe_join pe_str (pe_lc (own := [("k", 4)]) (g := gName 4) (te := tOp rIxS (tVar 2) (tDraw (tVar 0) (tC (.int 26)))) rfl scNames.nd
          (pi_range1 (by rfl) T.range (pa_cons (pe_call U.ok hr rfl U.g U.k U.b .nil pass0 (pa_cons (pv 0) (pa_cons pe_int pa_nil))) pa_nil))
          (blkOk_by (own := [("k", 4)]) (N := ["bag", "many", "letters", "pool", "k", "ahead", "behind"]) (sc := defScope sNames) (by decide +kernel)) (fun _ _ _ _ _ => pg_name (i := 4) scNames.nd rfl (Or.inl rfl)) (fun _ _ _ _ _ => pts_nil)
          (fun _ _ _ _ _ => pe_ix ix_str (pv 2) (pe_call U.ok hr (by rfl) U.g U.k U.b .nil pass0 (pa_cons (pv 0) (pa_cons pe_int pa_nil))) (fun _ _ => rfl)))))
      (pss_one (ps_ret (pe_lc (own := [("k", 4)]) (g := gName 4) (te := tOp (fun x y H Q => ∃ i j, x = .str i ∧ y = .str j ∧ i.length + j.length ≤ sizeLine ∧ Q (.str (i ++ j)) H) (tOp (fun x y H Q => ∃ i j, x = .str i ∧ y = .str j ∧ i.length + j.length ≤ sizeLine ∧ Q (.str (i ++ j)) H) (tVar 5)
            (tBM K "list" rPopAt (tVar 3) (tCons (tDraw (tVar 0) (tCB (rLenS K) (tCons (tVar 3) tNil))) tNil))) (tVar 6)) rfl scNames.nd
          (pi_range1 (by rfl) T.range (pa_cons (pv 1) pa_nil))
          (blkOk_by (own := [("k", 4)]) (N := ["bag", "many", "letters", "pool", "k", "ahead", "behind"]) (sc := defScope sNames) (by decide +kernel)) (fun _ _ _ _ _ => pg_name (i := 4) scNames.nd rfl (Or.inl rfl)) (fun _ _ _ _ _ => pts_nil)
          (fun _ _ _ _ _ => pe_op op_add_str (pe_op op_add_str (pv 5) (pe_bm PySem.F.plainAttrs_list PySem.F.slot_list_pop PySem.F.type_list_pop mt_popAt (pv 3)
            (pa_cons (pe_call U.ok hr (by rfl) U.g U.k U.b .nil pass0 (pa_cons (pv 0) (pa_cons (pe_callB (show CallR _ (.builtin "len") (rLenS K) from call_lenS) (by rfl) T.len PySem.boot_len (pa_cons (pv 3) pa_nil)) pa_nil))) pa_nil))) (pv 6)))))))), ?_⟩
    refine ⟨_, rfl, _, rfl, by rw [sizeLine_eq]; decide, fun q nq => ?_⟩
    obtain ⟨qp, qg, qc⟩ := hb.ne nq
    have b1 := hb.up (o := .lst (signsV letsT)) nq
    have t1 : Bt p g H (upd H q (.lst (signsV letsT))) := Bt.new nq
    have e1 : upd H q (.lst (signsV letsT)) q = some (.lst (signsV letsT)) := upd_same
    show tSeq _ _ _ _ (upd H q (.lst (signsV letsT)))
    generalize upd H q (.lst (signsV letsT)) = G1 at b1 t1 e1 ⊢
    refine ⟨⟨_, rfl⟩, _, rfl, p, g, c, 3, rfl, b1, by decide, by decide, fun z2 G2 z0 z3 b2 t2 => ?_⟩
    have e2 := t2 _ _ qp qg e1
    refine ⟨z2, rfl, by omega, by omega, fun D nD => ?_⟩
    refine letters_read (n := z2.toNat) nD b2 (by omega) (fun i G R bG q => ⟨rfl, _, rfl, _, rfl, p, g, c, 26, rfl, bG, by decide, by decide, fun z G' y0 y1 bG' tG' => ?_⟩) (fun G ys bG tG hD ly yl => ?_)
    · obtain ⟨ch, h1, h2⟩ := letter_at y0 y1
      exact ⟨_, _, ch, rfl, rfl, by rw [sizeLine_eq]; decide, h1, q ch G' h2 bG' tG'⟩
    have e3 := tG _ _ qp qg e2
    have t3 := (t1.trans t2).trans tG
    obtain ⟨jw, jl⟩ := joinE yl
    refine ⟨_, D, ys, rfl, rfl, .inl (SqL.of hD), ?_, ?_⟩
    · rw [sum_ones yl, ly, show ((("" : Str)).length) = 0 from by decide +kernel]
      omega
    have jl2 : (Txt.join "" ys).length ≤ 2 := by omega
    clear hD nD e1 e2 b1 b2 t1 t2 tG jl ly yl
    refine (?_ : gName 5 (V.str (Txt.join "" ys)) _ G _)
    generalize Txt.join "" ys = A1 at jw jl2 ⊢
    clear ys
    refine ⟨⟨_, rfl⟩, _, rfl, p, g, c, 2, rfl, bG, by decide, by decide, fun z4 G4 z5 z6 b4 t4 => ?_⟩
    have e4 := t4 _ _ qp qg e3
    refine ⟨z4, rfl, by omega, by omega, fun D nD => ?_⟩
    refine letters_read (n := z4.toNat) nD b4 (by omega) (fun i G R bG q => ⟨rfl, _, rfl, _, rfl, p, g, c, 26, rfl, bG, by decide, by decide, fun z G' y0 y1 bG' tG' => ?_⟩) (fun G5 ys b5 t5 hD ly yl => ?_)
    · obtain ⟨ch, h1, h2⟩ := letter_at y0 y1
      exact ⟨_, _, ch, rfl, rfl, by rw [sizeLine_eq]; decide, h1, q ch G' h2 bG' tG'⟩
    have e5 := t5 _ _ qp qg e4
    have t6 := (t3.trans t4).trans t5
    obtain ⟨kw, kl⟩ := joinE yl
    refine ⟨_, D, ys, rfl, rfl, .inl (SqL.of hD), ?_, ?_⟩
    · rw [sum_ones yl, ly, show ((("" : Str)).length) = 0 from by decide +kernel]
      omega
    have kl2 : (Txt.join "" ys).length ≤ 1 := by omega
    clear hD nD e3 e4 bG b4 t3 t4 t5 kl ly yl
    refine (?_ : gName 6 (V.str (Txt.join "" ys)) _ G5 _)
    generalize Txt.join "" ys = A2 at kw kl2 ⊢
    clear ys D G G1 G2 G4
    refine ⟨_, rfl, 4, rfl, by decide, by decide, fun L nL => ?_⟩
    obtain ⟨Lp, Lg, Lc⟩ := b5.ne nL
    have Lq : L ≠ q := fun z => by rw [z, e5] at nL; cases nL
    have HL : H L = none := by
      cases e : H L with
      | none => rfl
      | some o => rw [t6 _ _ Lp Lg e] at nL; cases nL
    refine lc_range (lo := 0) (n := 4) (fun i G => BagL G p g c ∧ Bt p g H G ∧ (∃ ps : List Nat, G q = some (.lst (ps.map fun c => V.str ⟨#[c]⟩)) ∧ ps.length + i = 26 ∧ ∀ c ∈ ps, c ∈ lets) ∧ ∃ ns : List Str, G L = some (.lst (ns.map V.str)) ∧ ns.length = i ∧ ∀ x ∈ ns, isNm x = true)
      ⟨b5.up nL, t6.trans (Bt.new nL), ⟨lets, (upd_ne (Ne.symm Lq)).trans e5, by decide +kernel, fun c hc => hc⟩, [], upd_same, rfl, fun x hx => nomatch hx⟩ (fun i G hi ⟨bG, tG, ⟨ps, hq, pl, pi⟩, ns, h1, h2, h3⟩ => ?_) (fun G ⟨bG, tG, _, ns, h1, h2, h3⟩ => ?_)
    · refine ⟨rfl, _, rfl, _, rfl, .inl ⟨rfl, _, SqL.of hq⟩, _, rfl, _, rfl, q, _, rfl, .inl (SqL.of hq), p, g, c, _, rfl, bG, ?_, ?_, fun z G6 z0 z1 b6 t6' => ?_⟩
      · rw [List.length_map]
        omega
      · rw [List.length_map]
        omega
      rw [List.length_map] at z1
      obtain ⟨j, rfl⟩ := Int.eq_ofNat_of_zero_le z0
      have hj : j < ps.length := by omega
      have hv : (ps.map fun c => V.str ⟨#[c]⟩)[j]? = some (V.str ⟨#[ps[j]]⟩) := by simp [hj]
      have hc := pi _ (List.getElem_mem hj)
      generalize ps[j] = ch at hv hc
      obtain ⟨cw, cl⟩ := lw_one hc
      have hq6 := t6' _ _ qp qg hq
      have hL6 := t6' _ _ Lp Lg h1
      refine ⟨q, _, _, j, _, rfl, rfl, hq6, by omega, by omega, ?_, hv, ?_⟩
      · rw [List.length_map]
        exact PySem.seqIndex_of (by omega) (by omega)
      refine ⟨_, _, rfl, rfl, by rw [cl, sizeLine_eq]; omega, _, rfl, _, _, rfl, rfl, by rw [strLen_append, cl, sizeLine_eq]; omega, ?_⟩
      refine ⟨_, (upd_ne Lq).trans hL6, ?_, (b6.set qp qg qc).set Lp Lg Lc, ((tG.trans t6').set nq).set HL, ⟨ps.eraseIdx j, ?_, ?_, fun d hd => pi d (List.mem_of_mem_eraseIdx hd)⟩, ns ++ [A1 ++ ⟨#[ch]⟩ ++ A2], ?_, ?_, fun x hx => ?_⟩
      · rw [List.length_map, sizeLine_eq]
        omega
      · rw [upd_ne (Ne.symm Lq), upd_same, map_erase]
      · rw [List.length_eraseIdx_of_lt hj]
        omega
      · rw [upd_same, List.map_append]
        rfl
      · rw [List.length_append, h2]
        rfl
      · rcases List.mem_append.mp hx with hx | hx
        · exact h3 x hx
        · rw [List.mem_singleton.mp hx]
          refine nm_of ((jw.app cw).app kw) ?_ ?_
          · rw [strLen_append, strLen_append, cl]
            omega
          · rw [strLen_append, strLen_append, cl]
            omega
    · exact go L ns G bG tG HL h1 h2 h3
end
end K4

set_option Elab.async false
set_option linter.all false
set_option maxRecDepth 100000
set_option maxHeartbeats 4000000
set_option autoImplicit false
/-! Steps and claims drawn. -/
namespace K4
open PySem L2 TL
abbrev sNumber : Stmt := top 34
abbrev sThing : Stmt := top 35
theorem BagL.ne_strs {H : Hp} {p g c l : Addr} {ns : List Str} (h : BagL H p g c) (hl : H l = some (.lst (ns.map V.str))) (n0 : ns ≠ []) : l ≠ p ∧ l ≠ g ∧ l ≠ c := by
  obtain ⟨i, b, k, gs, cs, h1, h2, h3, _⟩ := h
  obtain ⟨x, r, rfl⟩ : ∃ x r, ns = x :: r := by
    cases ns with
    | nil => exact absurd rfl n0
    | cons x r => exact ⟨x, r, rfl⟩
  refine ⟨fun z => ?_, fun z => ?_, fun z => ?_⟩
  · rw [z, h1] at hl; cases hl
  · rw [z, h2] at hl
    cases gs with
    | nil => cases hl
    | cons y s => cases hl
  · rw [z, h3] at hl
    cases cs with
    | nil => cases hl
    | cons y s => cases hl
theorem BagL.ne_tup {H : Hp} {p g c l : Addr} {xs : List V} (h : BagL H p g c) (hl : H l = some (.tup xs)) : l ≠ p ∧ l ≠ g ∧ l ≠ c := by
  obtain ⟨i, b, k, gs, cs, h1, h2, h3, _⟩ := h
  exact ⟨fun z => (by rw [z, h1] at hl; cases hl), fun z => (by rw [z, h2] at hl; cases hl), fun z => (by rw [z, h3] at hl; cases hl)⟩
theorem BagL.ne_dict {H : Hp} {p g c l : Addr} {xs : List (L2.Key × V)} (h : BagL H p g c) (hl : H l = some (.dK xs)) : l ≠ p ∧ l ≠ g ∧ l ≠ c := by
  obtain ⟨i, b, k, gs, cs, h1, h2, h3, _⟩ := h
  exact ⟨fun z => (by rw [z, h1] at hl; cases hl), fun z => (by rw [z, h2] at hl; cases hl), fun z => (by rw [z, h3] at hl; cases hl)⟩
theorem ShapesAt.bt {H G : Hp} {p g c d : Addr} {b : Bool} (h : ShapesAt H b d) (hb : BagL H p g c) (t : Bt p g H G) : ShapesAt G b d := by
  obtain ⟨kvs, h1, h2⟩ := h
  obtain ⟨n1, n2, _⟩ := hb.ne_dict h1
  refine ⟨kvs, t _ _ n1 n2 h1, ?_⟩
  clear h1
  generalize shL b = l at h2 ⊢
  induction h2 with
  | nil => exact .nil
  | cons h _ ih =>
    obtain ⟨m1, m2, _⟩ := hb.ne_tup h
    exact .cons (t _ _ m1 m2 h) ih
theorem Bt.none {p g q : Addr} {H G : Hp} (t : Bt p g H G) (np : q ≠ p) (ng : q ≠ g) (h : G q = none) : H q = none := by
  cases e : H q with
  | none => rfl
  | some o => rw [t _ _ np ng e] at h; cases h
def spNumber : Sp := fun vs H Q _ => ∃ p g c : Addr, vs = [.ref p] ∧ BagL H p g c ∧ ∀ (i : Int) (G : Hp), BagL G p g c → Bt p g H G → -(10 ^ 9) < i → i < 10 ^ 9 → Q (.int i) G
section
variable {P : Program} {w : World} {K : PySem.W.Frag} {mg : Str → Option Value} {base : Heap} {fD fN : Addr} {dD dN : FuncData}
theorem scNumber : FnScope ["bag", "number"] ["bag"] (defScope sNumber) := ⟨rfl, rfl, rfl, by decide +kernel, rfl, by decide +kernel, by decide +kernel⟩
theorem six_at {a b z : Int} (z0 : 0 ≤ z) (z6 : z < 6) (a0 : 0 ≤ a) (a9 : a < 10 ^ 9) (b0 : 0 ≤ b) (b9 : b < 10 ^ 9) : ∃ v : Int, atI [V.int 0, .int 1, .int 100, .int 999999999, .int a, .int b] z = some (.int v) ∧ 0 ≤ v ∧ v < 10 ^ 9 := by
  obtain ⟨j, rfl⟩ := Int.eq_ofNat_of_zero_le z0
  have : j = 0 ∨ j = 1 ∨ j = 2 ∨ j = 3 ∨ j = 4 ∨ j = 5 := by omega
  rcases this with rfl | rfl | rfl | rfl | rfl | rfl
  · exact ⟨0, atI_nat rfl, by omega, by omega⟩
  · exact ⟨1, atI_nat rfl, by omega, by omega⟩
  · exact ⟨100, atI_nat rfl, by omega, by omega⟩
  · exact ⟨999999999, atI_nat rfl, by omega, by omega⟩
  · exact ⟨a, atI_nat rfl, a0, a9⟩
  · exact ⟨b, atI_nat rfl, b0, b9⟩
theorem two_at {a b : V} {z : Int} (z0 : 0 ≤ z) (z2 : z < 2) : (z = 0 ∧ atI [a, b] z = some a) ∨ (z = 1 ∧ atI [a, b] z = some b) := by
  obtain ⟨j, rfl⟩ := Int.eq_ofNat_of_zero_le z0
  have : j = 0 ∨ j = 1 := by omega
  rcases this with rfl | rfl
  · exact .inl ⟨rfl, atI_nat rfl⟩
  · exact .inr ⟨rfl, atI_nat rfl⟩
theorem ok_number {f : Addr} {fd : FuncData} (F : Fun K "_law_number" "_law_number" sNumber f fd) (U : DrawTxt P w K mg base fD dD) : FnOk P w K mg base CX0 2 f fd ["bag"] spNumber := by
  refine F.ok scNumber (fun vs H Q E h => ?_) (fun cdv A outer s H vs Q E hr h => ?_)
  · obtain ⟨p, g, c, rfl, _⟩ := h
    rfl
  · obtain ⟨p, g, c, rfl, hb, go⟩ := h
    refine ⟨_, pss_cons (ps_set (i := 1) scNumber.nd rfl (Or.inl rfl) (pe_ix ix_list (pe_lst (pa_cons pe_int (pa_cons pe_int (pa_cons pe_int (pa_cons pe_int (pa_cons (pe_call U.ok hr rfl U.g U.k U.b .nil pass0 (pa_cons (pv 0) (pa_cons pe_int pa_nil)))
        (pa_cons (pe_call U.ok hr rfl U.g U.k U.b .nil pass0 (pa_cons (pv 0) (pa_cons (pe_op op_pow pe_int pe_int) pa_nil))) pa_nil))))))) (pe_call U.ok hr rfl U.g U.k U.b .nil pass0 (pa_cons (pv 0) (pa_cons pe_int pa_nil))) (fun _ _ => rfl)))
      (pss_one (ps_ret (pe_ix ix_list (pe_lst (pa_cons (pv 1) (pa_cons (pe_op op_sub pe_int (pv 1)) pa_nil))) (pe_call U.ok hr rfl U.g U.k U.b .nil pass0 (pa_cons (pv 0) (pa_cons pe_int pa_nil))) (fun _ _ => rfl)))), ?_⟩
    refine ⟨_, rfl, p, g, c, 10, rfl, hb, by decide, by decide, fun z1 G1 a0 a9 b1 t1 => ?_⟩
    refine ⟨_, rfl, _, _, rfl, rfl, ⟨by decide, by decide, by decide⟩, p, g, c, _, rfl, b1, by decide, by decide, fun z2 G2 c0 c9 b2 t2 => ?_⟩
    refine ⟨by show 6 ≤ sizeLine; decide, fun l nl => ?_⟩
    obtain ⟨lp, lg, lc⟩ := b2.ne nl
    refine ⟨_, rfl, p, g, c, 6, rfl, b2.up nl, by decide, by decide, fun z3 G3 d0 d6 b3 t3 => ?_⟩
    obtain ⟨v, hv, v0, v9⟩ := six_at d0 d6 a0 (Int.lt_of_lt_of_le a9 (by decide)) c0 (show z2 < 10 ^ 9 from c9)
    refine ⟨l, _, _, _, rfl, rfl, SqL.of (t3 _ _ lp lg upd_same), hv, ?_⟩
    have t4 := ((t1.trans t2).trans (Bt.new (o := .lst [V.int 0, .int 1, .int 100, .int 999999999, .int z1, .int z2]) nl)).trans t3
    clear t1 t2 t3 b1 b2 hv d0 d6 a0 a9 c0 c9 lp lg lc nl hb
    refine ⟨_, rfl, _, rfl, _, _, rfl, rfl, by show 2 ≤ sizeLine; decide, fun m nm => ?_⟩
    obtain ⟨mp, mg', mc⟩ := b3.ne nm
    refine ⟨_, rfl, p, g, c, 2, rfl, b3.up nm, by decide, by decide, fun z5 G5 e0 e2 b5 t5 => ?_⟩
    have t6 := (t4.trans (Bt.new (o := .lst [V.int v, .int (0 - v)]) nm)).trans t5
    rcases two_at (a := V.int v) (b := .int (0 - v)) e0 e2 with ⟨_, e⟩ | ⟨_, e⟩
    · exact ⟨m, _, _, _, rfl, rfl, SqL.of (t5 _ _ mp mg' upd_same), e, go _ _ b5 t6 (by omega) v9⟩
    · exact ⟨m, _, _, _, rfl, rfl, SqL.of (t5 _ _ mp mg' upd_same), e, go _ _ b5 t6 (by omega) (by omega)⟩
def spThing (b : Bool) : Sp := fun vs H Q _ => ∃ (p g c l d : Addr) (pr : Bool) (ns : List Str), vs = [.ref p, .ref l, .ref d, .bl pr] ∧ BagL H p g c ∧ H l = some (.lst (ns.map V.str)) ∧ ns.length = 4 ∧ (∀ x ∈ ns, isNm x = true) ∧ ShapesAt H b d ∧
  ∀ (t : Addr) (z : Str) (ms : List Str) (is : List Int) (G : Hp), BagL G p g c → Bt p g H G → H t = none → G t = some (.tup (vals z ms is)) → Thing b z ms is → Q (.ref t) G
/-- [some of the names for k in range(n)] -/
theorem picks_read {g : TG} {te : TE} {vs : List Nat} {σ : L2.St} {H : Hp} {D p gg c : Addr} {n : Nat} {ns : List Str} {lo : Int} {Qd : Hp → Prop} (nD : H D = none) (hb : BagL H p gg c) (hn : n ≤ 10)
    (turn : ∀ (i : Nat) (G : Hp) (R : VK), BagL G p gg c → Bt p gg H G → (∀ x G', x ∈ ns → BagL G' p gg c → Bt p gg G G' → R (.str x) G') → g (.int (lo + i)) (wipe σ vs) G fun σ2 H2 => wipe σ2 vs = wipe σ vs ∧ te σ2 H2 R)
    (done : ∀ (G : Hp) (ys : List Str), BagL G p gg c → Bt p gg H G → G D = some (.lst (ys.map V.str)) → ys.length = n → (∀ y ∈ ys, y ∈ ns) → Qd G) :
    ∃ W : Nat → Nat → Hp → Prop, (∃ m, W 0 m (upd H D (.lst []))) ∧ ∀ i m H, W i m H →
      ((Itr lo n).stop i H ∧ Qd H) ∨ ((Itr lo n).go i H ∧ ∃ Nx : Hp → Prop, (∀ H', Nx H' → ∃ m', m' < m ∧ W (i + 1) m' H') ∧ ∀ x H', (Itr lo n).yld i H x H' → g x (wipe σ vs) H' fun σ2 H2 => wipe σ2 vs = wipe σ vs ∧ tYes σ2 H2 fun b H3 =>
        if b = true then te σ2 H3 fun y H4 => ∃ acc, H4 D = some (.lst acc) ∧ acc.length < sizeLine ∧ Nx (upd H4 D (.lst (acc ++ [y]))) else Nx H3) := by
  obtain ⟨Dp, Dg, Dc⟩ := hb.ne nD
  refine lc_range (lo := lo) (n := n) (fun i G => BagL G p gg c ∧ Bt p gg H G ∧ ∃ ys : List Str, G D = some (.lst (ys.map V.str)) ∧ ys.length = i ∧ ∀ y ∈ ys, y ∈ ns) ⟨hb.up nD, Bt.new nD, [], upd_same, rfl, fun y hy => nomatch hy⟩ (fun i G hi ⟨bG, tG, ys, h1, h2, h3⟩ => ?_) (fun G ⟨bG, tG, ys, h1, h2, h3⟩ => done G ys bG tG h1 h2 h3)
  refine turn i G (fun y H4 => ∃ acc, H4 D = some (.lst acc) ∧ acc.length < sizeLine ∧ _) bG tG fun x G' hx bG' tG' => ⟨ys.map V.str, tG' _ _ Dp Dg h1, ?_, bG'.set Dp Dg Dc, (tG.trans tG').set nD, ys ++ [x], ?_, ?_, fun y hy => ?_⟩
  · rw [List.length_map, sizeLine_eq]
    omega
  · rw [upd_same, List.map_append]
    rfl
  · rw [List.length_append, h2]
    rfl
  · rcases List.mem_append.mp hy with hy | hy
    · exact h3 y hy
    · rw [List.mem_singleton.mp hy]
      exact hx
end
end K4

set_option Elab.async false
set_option linter.all false
set_option maxRecDepth 100000
set_option maxHeartbeats 4000000
set_option autoImplicit false
/-! A step or a claim is drawn. -/
namespace K4
open PySem L2 TL
section
variable {P : Program} {w : World} {K : PySem.W.Frag} {mg : Str → Option Value} {base : Heap} {fD fN : Addr} {dD dN : FuncData}
structure NumTxt (P : Program) (w : World) (K : PySem.W.Frag) (mg : Str → Option Value) (base : Heap) (fN : Addr) (dN : FuncData) : Prop where
  ok : FnOk P w K mg base CX0 2 fN dN ["bag"] spNumber
  b : Binds K dN ["bag"] []
  g : mg "_law_number" = some (.ref fN)
  k : PySem.W.keepIn K (.ref fN) = true
abbrev NT : List Str := ["bag", "names", "shapes", "is_proper", "word", "many", "integers", "found", "k", "numbers"]
theorem scThing : FnScope NT ["bag", "names", "shapes", "is_proper"] (defScope sThing) := ⟨rfl, rfl, rfl, by decide +kernel, rfl, by decide +kernel, by decide +kernel⟩
theorem sh_mem {b : Bool} {z : Str} (h : z ∈ (shL b).map (·.1)) : ∃ n k, shapeOf b z = some (n, k) := by
  obtain ⟨e, he, rfl⟩ := List.mem_map.mp h
  exact ⟨e.2.1, e.2.2, (shape_facts b e he).1⟩
theorem ixN_one {n : Nat} (h : 1 < n) : ixN n 1 = some 1 := by
  unfold ixN
  simp
  omega
theorem ok_thing {b : Bool} {f : Addr} {fd : FuncData} (F : Fun K "_law_thing" "_law_thing" sThing f fd) (T : LawTxt mg) (U : DrawTxt P w K mg base fD dD) (M : NumTxt P w K mg base fN dN) : FnOk P w K mg base CX0 3 f fd ["bag", "names", "shapes", "is_proper"] (spThing b) := by
  refine F.ok scThing (fun vs H Q E h => ?_) (fun cdv A outer s H vs Q E hr h => ?_)
  · obtain ⟨p, g, c, l, d, pr, ns, rfl, _⟩ := h
    rfl
  · obtain ⟨p, g, c, l, d, pr, ns, rfl, hb, hl, nl, nn, hs, go⟩ := h
    have hu := hu_of hr
    have h1 : Room 1 _ := hr.mono (by decide)
    refine ⟨_, pss_cons (ps_set (i := 4) scThing.nd rfl (Or.inl rfl) (pe_ix ix_list (pe_callTy (call_listD rfl) (by rfl) T.list (by decide +kernel) (pa_cons (pv 2) pa_nil)) (pe_call U.ok h1 rfl U.g U.k U.b .nil pass0 (pa_cons (pv 0) (pa_cons (pe_callB call_lenD (by rfl) T.len PySem.boot_len (pa_cons (pv 2) pa_nil)) pa_nil))) (fun _ _ => rfl)))
      (pss_cons (ps_asg (pe_dget hu (pv 2) (pv 4) (fun _ _ => rfl)) (pg_tup (by rfl) (pgs_cons (pg_name (i := 5) scThing.nd rfl (Or.inl rfl)) (pgs_cons (pg_name (i := 6) scThing.nd rfl (Or.inl rfl)) pgs_nil))))
      (pss_cons (ps_set (i := 7) scThing.nd rfl (Or.inl rfl) (pe_op op_cat (pe_lst (pa_cons (pv 4) pa_nil)) (pe_lc (own := [("k", 8)]) (g := gName 8) (te := tOp (rIxL K) (tVar 1) (tDraw (tVar 0) (tCB (rLenS K) (tCons (tVar 1) tNil)))) rfl scThing.nd (pi_range1 (by rfl) T.range (pa_cons (pv 5) pa_nil))
          (blkOk_by (own := [("k", 8)]) (N := NT) (sc := defScope sThing) (by decide +kernel)) (fun _ _ _ _ _ => pg_name (i := 8) scThing.nd rfl (Or.inl rfl)) (fun _ _ _ _ _ => pts_nil)
          (fun _ _ _ _ _ => pe_ix (show IxR _ (rIxL K) from ix_list) (pv 1) (pe_call U.ok h1 (by rfl) U.g U.k U.b .nil pass0 (pa_cons (pv 0) (pa_cons (pe_callB (show CallR _ (.builtin "len") (rLenS K) from call_lenS) (by rfl) T.len PySem.boot_len (pa_cons (pv 1) pa_nil)) pa_nil))) (fun _ _ => rfl)))))
      (pss_cons (ps_setLc (i := 9) (own := [("k", 8)]) (g := gName 8) (te := tCall spNumber [] E0 (tCons (tVar 0) tNil)) rfl scThing.nd rfl rfl (sw_true rfl rfl rfl (by decide +kernel)) (pi_range1 (by rfl) T.range (pa_cons (pv 6) pa_nil))
          (blkOk_by (own := [("k", 8)]) (N := NT) (sc := defScope sThing) (by decide +kernel)) (fun _ _ _ _ _ => pg_name (i := 8) scThing.nd rfl (Or.inl rfl)) (fun _ _ _ _ _ => pts_nil)
          (fun _ _ _ _ _ => pe_call M.ok hr (by rfl) M.g M.k M.b .nil pass0 (pa_cons (pv 0) pa_nil)))
      (C8.pss_cut (ps_if (pt_val (pv 3))
        (pss_cons (ps_asg (pe_ix ix_list (pv 1) pe_int (fun _ _ => rfl)) (pg_sub (pv 7) pe_int set_list))
        (pss_cons (ps_set (i := 7) scThing.nd rfl (Or.inl rfl) (pe_op op_cat (pe_slice sl_list (pv 7) po_none (po_some pe_int)) (pe_lc (own := [("k", 8)]) (g := gName 8) (te := tOp (rIxL K) (tVar 1) (tOp (rI0 fun i j => .int (i + j)) (tC (.int 1)) (tDraw (tVar 0) (tOp (rI0 fun i j => .int (i - j)) (tCB (rLenS K) (tCons (tVar 1) tNil)) (tC (.int 1)))))) rfl scThing.nd (pi_range1 (by rfl) T.range (pa_cons (pe_op op_sub (pv 5) pe_int) pa_nil))
          (blkOk_by (own := [("k", 8)]) (N := NT) (sc := defScope sThing) (by decide +kernel)) (fun _ _ _ _ _ => pg_name (i := 8) scThing.nd rfl (Or.inl rfl)) (fun _ _ _ _ _ => pts_nil)
          (fun _ _ _ _ _ => pe_ix (show IxR _ (rIxL K) from ix_list) (pv 1) (pe_op op_add pe_int (pe_call U.ok h1 (by rfl) U.g U.k U.b .nil pass0 (pa_cons (pv 0) (pa_cons (pe_op op_sub (pe_callB (show CallR _ (.builtin "len") (rLenS K) from call_lenS) (by rfl) T.len PySem.boot_len (pa_cons (pv 1) pa_nil)) pe_int) pa_nil)))) (fun _ _ => rfl)))))
        (pss_one (ps_set (i := 9) scThing.nd rfl (Or.inl rfl) (pe_slice sl_list (pe_lst (pa_cons (pe_op op_sub (pe_call U.ok h1 rfl U.g U.k U.b .nil pass0 (pa_cons (pv 0) (pa_cons pe_int pa_nil))) pe_int) (pa_cons (pe_op op_add pe_int (pe_call U.ok h1 rfl U.g U.k U.b .nil pass0 (pa_cons (pv 0) (pa_cons pe_int pa_nil)))) pa_nil))) po_none (po_some (pv 6))))))) pss_nil)
      (pss_one (ps_ret (pe_callTy call_tuple_of (by rfl) T.tuple (by decide +kernel) (pa_cons (pe_op op_cat (pv 7) (pv 9)) pa_nil)))))))), ?_⟩
    obtain ⟨kvs, hd, sh⟩ := hs
    have hs0 : ShapesAt H b d := ⟨kvs, hd, sh⟩
    obtain ⟨lp, lg, _⟩ := hb.ne_strs hl (by intro e; rw [e] at nl; cases nl)
    obtain ⟨dp, dg, _⟩ := hb.ne_dict hd
    have kl := sh.len
    have sl : (shL b).length ≤ 11 ∧ 1 ≤ (shL b).length := by cases b <;> decide
    refine ⟨_, rfl, d, kvs, rfl, .inl hd, fun L nL => ?_⟩
    obtain ⟨Lp, Lg, Lc⟩ := hb.ne nL
    have dL : d ≠ L := fun z => by rw [← z, hd] at nL; cases nL
    refine ⟨_, rfl, _, rfl, d, kvs, rfl, (upd_ne dL).trans hd, p, g, c, _, rfl, hb.up nL, by omega, by omega, fun z1 G1 z10 z11 b1 t1 => ?_⟩
    obtain ⟨j, rfl⟩ := Int.eq_ofNat_of_zero_le z10
    have hj : j < ((shL b).map (·.1)).length := by rw [List.length_map]; omega
    have hz : (kvs.map fun kv => kV kv.1)[j]? = some (V.str ((shL b).map (·.1))[j]) := by
      rw [sh.keys, List.getElem?_map]
      have : j < (shL b).length := by omega
      simp [this]
    have mz := List.getElem_mem hj
    generalize ((shL b).map (·.1))[j] = z at hz mz
    obtain ⟨n, k, shz⟩ := sh_mem mz
    have tL : Bt p g H G1 := (Bt.new (o := .lst (kvs.map fun kv => kV kv.1)) nL).trans t1
    refine ⟨L, _, _, _, rfl, rfl, SqL.of (t1 _ _ Lp Lg upd_same), atI_nat hz, ?_⟩
    have hs1 := hs0.bt hb tL
    have hl1 := tL _ _ lp lg hl
    clear hz mz hj z10 z11 nL Lp Lg Lc dL t1
    obtain ⟨kvs1, hd1, sh1⟩ := hs1
    rcases sh1.val z with ⟨e1, _⟩ | ⟨n', k', t, e1, e2, ht⟩
    · rw [show shapeIn (shL b) z = shapeOf b z from rfl, shz] at e1
      cases e1
    rw [show shapeIn (shL b) z = shapeOf b z from rfl, shz] at e1
    cases e1
    obtain ⟨n1, n6, k2⟩ := shape_lim shz
    refine ⟨_, rfl, _, rfl, d, _, rfl, (by rw [← e2]; exact DGet.k (k := Sum.inr z) hd1), ?_⟩
    refine ⟨t, _, rfl, SqT.of ht, rfl, _, _, rfl, _, _, rfl, rfl, ?_⟩
    refine ⟨_, rfl, by show 1 ≤ sizeLine; decide, fun a na => ?_⟩
    obtain ⟨ap, ag, ac⟩ := b1.ne na
    have b2 := b1.up (o := .lst [V.str z]) na
    have t2 := tL.trans (Bt.new (o := .lst [V.str z]) na)
    have hl2 : upd G1 a (.lst [V.str z]) l = some (.lst (ns.map V.str)) := (upd_ne (ne_of_none hl1 na)).trans hl1
    have ha2 : upd G1 a (.lst [V.str z]) a = some (.lst [V.str z]) := upd_same
    generalize upd G1 a (.lst [V.str z]) = G2 at b2 t2 hl2 ha2 ⊢
    clear hd1 sh1 ht na b1 tL hl1
    refine ⟨_, rfl, n, rfl, by omega, by omega, fun D nD => ?_⟩
    refine picks_read (n := n) (ns := ns) nD b2 (by omega) (fun i G R bG tG q => ⟨rfl, _, rfl, _, rfl, _, rfl, l, _, rfl, .inl (SqL.of (tG _ _ lp lg hl2)), p, g, c, _, rfl, bG, by rw [List.length_map]; omega, by rw [List.length_map]; omega, fun z2 G' y0 y1 bG' tG' => ?_⟩) (fun G3 ms b3 t3 hD lm im => ?_)
    · obtain ⟨j, rfl⟩ := Int.eq_ofNat_of_zero_le y0
      have hj : j < ns.length := by rw [List.length_map] at y1; omega
      exact ⟨l, _, _, _, rfl, rfl, SqL.of (tG' _ _ lp lg (tG _ _ lp lg hl2)), atI_nat (show (ns.map V.str)[j]? = some (V.str ns[j]) by simp [hj]), q _ G' (List.getElem_mem hj) bG' tG'⟩
    have ha3 := t3 _ _ ap ag ha2
    have t4 := t2.trans t3
    have hl3 := t4 _ _ lp lg hl
    refine ⟨a, D, _, _, rfl, rfl, ha3, hD, by rw [List.length_map, sizeLine_eq]; show 1 + _ ≤ _; omega, fun q nq => ?_⟩
    have b5 := b3.up (o := .lst (V.str z :: ms.map V.str)) nq
    have t5 := t4.trans (Bt.new (o := .lst (V.str z :: ms.map V.str)) nq)
    have hq5 : upd G3 q (.lst (V.str z :: ms.map V.str)) q = some (.lst (V.str z :: ms.map V.str)) := upd_same
    have hl5 : upd G3 q (.lst (V.str z :: ms.map V.str)) l = some (.lst (ns.map V.str)) := (upd_ne (ne_of_none hl3 nq)).trans hl3
    obtain ⟨qp, qg, qc⟩ := b3.ne nq
    have Hq := t4.none qp qg nq
    refine (?_ : gName 7 (V.ref q) _ (upd G3 q (.lst (V.str z :: ms.map V.str))) _)
    generalize upd G3 q (.lst (V.str z :: ms.map V.str)) = G5 at b5 t5 hq5 hl5 ⊢
    clear ha3 hD nD nq b3 t3 t4 hl3 ha2 b2 t2 hl2 ap ag ac
    have nm_ : ∀ y ∈ ms, isNm y = true := fun y hy => nn y (im y hy)
    clear im
    refine ⟨_, rfl, k, rfl, by omega, by omega, fun N nN => ?_⟩
    obtain ⟨Np, Ng, Nc⟩ := b5.ne nN
    have Nq : N ≠ q := fun z => by rw [z, hq5] at nN; cases nN
    have HN := t5.none Np Ng nN
    refine lc_range (lo := 0) (n := k) (fun i G => BagL G p g c ∧ Bt p g H G ∧ G q = some (.lst (V.str z :: ms.map V.str)) ∧ ∃ is : List Int, G N = some (.lst (is.map V.int)) ∧ is.length = i ∧ ∀ x ∈ is, -(10 ^ 9) < x ∧ x < 10 ^ 9)
      ⟨b5.up nN, t5.trans (Bt.new nN), (upd_ne (Ne.symm Nq)).trans hq5, [], upd_same, rfl, fun x hx => nomatch hx⟩ (fun i G hi ⟨bG, tG, hq, is, h1, h2, h3⟩ => ?_) (fun G ⟨bG, tG, hq, is, h1, h2, h3⟩ => ?_)
    · refine ⟨rfl, _, rfl, p, g, c, rfl, bG, fun v G' bG' tG' v0 v1 => ⟨is.map V.int, tG' _ _ Np Ng h1, ?_, bG'.set Np Ng Nc, (tG.trans tG').set HN, (upd_ne (Ne.symm Nq)).trans (tG' _ _ qp qg hq), is ++ [v], ?_, ?_, fun x hx => ?_⟩⟩
      · rw [List.length_map, sizeLine_eq]
        omega
      · rw [upd_same, List.map_append]
        rfl
      · rw [List.length_append, h2]
        rfl
      · rcases List.mem_append.mp hx with hx | hx
        · exact h3 x hx
        · rw [List.mem_singleton.mp hx]
          exact ⟨v0, v1⟩
    refine (?_ : gName 9 (V.ref N) _ G _)
    have hlG := tG _ _ lp lg hl
    clear b5 t5 hq5 hl5 nN
    refine ⟨fun σ G => ∃ (q N : Addr) (ms : List Str) (is : List Int) (u8 : Option V), σ = [some (.ref p), some (.ref l), some (.ref d), some (.bl pr), some (.str z), some (.int n), some (.int k), some (.ref q), u8, some (.ref N)] ∧ BagL G p g c ∧ Bt p g H G ∧ G q = some (.lst (V.str z :: ms.map V.str)) ∧ G N = some (.lst (is.map V.int)) ∧ ms.length = n ∧ is.length = k ∧ (∀ y ∈ ms, isNm y = true) ∧ (∀ x ∈ is, -(10 ^ 9) < x ∧ x < 10 ^ 9), ?_, ?_⟩
    · refine ⟨_, rfl, pr, rfl, ?_⟩
      cases pr with
      | false => exact ifN rfl ⟨q, N, ms, is, _, rfl, bG, tG, hq, h1, lm, h2, nm_, h3⟩
      | true =>
        refine ifY rfl ?_
        obtain ⟨x0, xs, ex⟩ : ∃ x0 xs, ns = x0 :: xs := by
          cases ns with
          | nil => cases nl
          | cons x0 xs => exact ⟨x0, xs, rfl⟩
        obtain ⟨m0, mr, em⟩ : ∃ m0 mr, ms = m0 :: mr := by
          cases ms with
          | nil => simp at lm; omega
          | cons m0 mr => exact ⟨m0, mr, rfl⟩
        refine ⟨_, rfl, l, _, _, _, rfl, rfl, SqL.of hlG, (show atI _ ((0 : Nat) : Int) = some (V.str x0) from atI_nat (by rw [ex]; rfl)), _, rfl, q, _, _, 1, rfl, rfl, hq, ixN_one (by rw [em]; simp), ?_⟩
        have es : (V.str z :: ms.map V.str).set 1 (V.str x0) = V.str z :: V.str x0 :: mr.map V.str := by rw [em]; rfl
        rw [es]
        have b6 := bG.set (o := .lst (V.str z :: V.str x0 :: mr.map V.str)) qp qg qc
        have t6 := tG.set (o := .lst (V.str z :: V.str x0 :: mr.map V.str)) Hq
        have hq6 : upd G q (.lst (V.str z :: V.str x0 :: mr.map V.str)) q = some (.lst (V.str z :: V.str x0 :: mr.map V.str)) := upd_same
        generalize upd G q (.lst (V.str z :: V.str x0 :: mr.map V.str)) = G6 at b6 t6 hq6 ⊢
        clear hlG es bG tG hq h1 h3 h2
        refine ⟨_, rfl, _, rfl, q, _, rfl, SqL.of hq6, fun a na => ?_⟩
        have ec : cutV (V.str z :: V.str x0 :: mr.map V.str) none (some 2) = [V.str z, V.str x0] := by
          have := cut_to (V.str z) (V.str x0 :: mr.map V.str) 1
          exact this
        rw [ec]
        obtain ⟨ap, ag, ac⟩ := b6.ne na
        have b7 := b6.up (o := .lst [V.str z, V.str x0]) na
        have t7 := t6.trans (Bt.new (o := .lst [V.str z, V.str x0]) na)
        have ha7 : upd G6 a (.lst [V.str z, V.str x0]) a = some (.lst [V.str z, V.str x0]) := upd_same
        generalize upd G6 a (.lst [V.str z, V.str x0]) = G7 at b7 t7 ha7 ⊢
        have hl7 := t7 _ _ lp lg hl
        clear ec na b6 t6 hq6
        obtain ⟨n', rfl⟩ : ∃ n', n = n' + 1 := ⟨n - 1, by omega⟩
        refine ⟨_, rfl, _, _, rfl, rfl, (n' : Int), (congrArg (fun x => [V.int x]) (show (((n' + 1 : Nat) : Int) - 1) = n' by omega)), by omega, by omega, fun D nD => ?_⟩
        refine picks_read (n := n') (ns := ns) nD b7 (by omega) (fun i G R bG tG q => ⟨rfl, _, rfl, _, rfl, _, rfl, l, _, rfl, .inl (SqL.of (tG _ _ lp lg hl7)), _, _, rfl, rfl, p, g, c, _, rfl, bG, by rw [List.length_map]; omega, by rw [List.length_map]; omega, fun z2 G' y0 y1 bG' tG' => ?_⟩) (fun G8 ys b8 t8 hD ly iy => ?_)
        · obtain ⟨j, rfl⟩ := Int.eq_ofNat_of_zero_le y0
          have hj : j + 1 < ns.length := by rw [List.length_map] at y1; omega
          refine ⟨_, _, rfl, rfl, l, _, _, _, rfl, rfl, SqL.of (tG' _ _ lp lg (tG _ _ lp lg hl7)), (?_ : atI _ (1 + (j : Int)) = some (V.str ns[j + 1])), q _ G' (List.getElem_mem hj) bG' tG'⟩
          rw [show (1 + (j : Int)) = ((j + 1 : Nat) : Int) by omega]
          exact atI_nat (by simp [hj])
        · have ha8 := t8 _ _ ap ag ha7
          have t9 := t7.trans t8
          refine ⟨a, D, _, _, rfl, rfl, ha8, hD, by rw [List.length_map, sizeLine_eq]; show 2 + _ ≤ _; omega, fun r nr => ?_⟩
          obtain ⟨rp, rg, rc⟩ := b8.ne nr
          have b10 := b8.up (o := .lst (V.str z :: (x0 :: ys).map V.str)) nr
          have t10 := t9.trans (Bt.new (o := .lst (V.str z :: (x0 :: ys).map V.str)) nr)
          have hr10 : upd G8 r (.lst (V.str z :: (x0 :: ys).map V.str)) r = some (.lst (V.str z :: (x0 :: ys).map V.str)) := upd_same
          refine (?_ : gName 7 (V.ref r) _ (upd G8 r (.lst (V.str z :: (x0 :: ys).map V.str))) _)
          generalize upd G8 r (.lst (V.str z :: (x0 :: ys).map V.str)) = G10 at b10 t10 hr10 ⊢
          clear b8 t8 hD nr t9 ha8 nD
          refine ⟨_, rfl, p, g, c, 201, rfl, b10, by decide, by decide, fun v1 G11 c0 c1 b11 t11 => ⟨_, _, rfl, rfl, _, rfl, p, g, c, 100, rfl, b11, by decide, by decide, fun v2 G12 d0 d1 b12 t12 => ⟨_, _, rfl, rfl, by show 2 ≤ sizeLine; decide, fun e ne => ?_⟩⟩⟩
          refine ⟨_, rfl, _, rfl, e, _, rfl, SqL.of upd_same, fun N2 nN2 => ?_⟩
          have hk : ∃ js : List Int, cutV [V.int (v1 - 100), V.int (1 + v2)] none (some (k : Int)) = js.map V.int ∧ js.length = k ∧ ∀ x ∈ js, -(10 ^ 9) < x ∧ x < 10 ^ 9 := by
            have : k = 0 ∨ k = 1 ∨ k = 2 := by omega
            rcases this with rfl | rfl | rfl
            · exact ⟨[], rfl, rfl, fun x hx => nomatch hx⟩
            · exact ⟨[v1 - 100], rfl, rfl, fun x hx => by rw [List.mem_singleton.mp hx]; omega⟩
            · refine ⟨[v1 - 100, 1 + v2], rfl, rfl, fun x hx => ?_⟩
              have : x = v1 - 100 ∨ x = 1 + v2 := by simpa using hx
              rcases this with rfl | rfl <;> omega
          obtain ⟨js, ej, lj, bj⟩ := hk
          rw [ej]
          have hr12 := t12 _ _ rp rg (t11 _ _ rp rg hr10)
          have re := ne_of_none hr12 ne
          have rN : r ≠ N2 := fun z => by rw [← z, upd_ne re, hr12] at nN2; cases nN2
          refine ⟨r, N2, x0 :: ys, js, _, rfl, (b12.up ne).up nN2, (((t10.trans t11).trans t12).trans (Bt.new ne)).trans (Bt.new nN2), (upd_ne rN).trans ((upd_ne re).trans hr12), upd_same, by rw [List.length_cons, ly], lj, fun y hy => ?_, bj⟩
          rcases List.mem_cons.mp hy with hy | hy
          · rw [hy]; exact nn x0 (by rw [ex]; exact List.mem_cons_self)
          · exact nn y (iy y hy)
    · rintro σ G ⟨q, N, ms, is, u8, rfl, bG, tG, hq, hN, lm, li, nm, bi⟩
      refine ⟨_, rfl, _, rfl, q, N, _, _, rfl, rfl, hq, hN, by rw [List.length_cons, List.length_map, List.length_map, sizeLine_eq]; omega, fun a na => ?_⟩
      refine ⟨a, _, rfl, .inl ⟨SqL.of upd_same, fun t nt => ?_⟩⟩
      have tE := (tG.trans (Bt.new (o := .lst (V.str z :: ms.map V.str ++ is.map V.int)) na)).trans (Bt.new (o := .tup (V.str z :: ms.map V.str ++ is.map V.int)) nt)
      have bE := (bG.up (o := .lst (V.str z :: ms.map V.str ++ is.map V.int)) na)
      obtain ⟨tp, tg, _⟩ := bE.ne nt
      refine go t z ms is _ (bE.up nt) tE ?_ upd_same ⟨by rw [lm, li]; exact shz, nm, bi⟩
      exact (tG.trans (Bt.new (o := .lst (V.str z :: ms.map V.str ++ is.map V.int)) na)).none tp tg nt
end
end K4

set_option Elab.async false
set_option linter.all false
set_option maxRecDepth 100000
set_option maxHeartbeats 4000000
set_option autoImplicit false
/-! f(k = v, ..) without positional values, where what is raised is wished for at the caller's slots. -/
namespace L2
open PySem PySem.Spec PyProof.Rows
def tKw (m : Nat) (sp : Sp) (gV : List V → List V → List V) (E : St → XK) (tk : TA) : TE := fun σ H Q => tk σ H fun zs G => zs.length = m ∧ sp (gV [] zs) G Q (E σ)
section
variable {X : Cx} {CX : CXT} {k n : Nat} {f : Addr} {fd : FuncData} {ps ks : List Str} {sp : Sp} {x : Str} {p pos : Pos} {kws : List Keyword} {tk : TA} {g : List Value → List Value → List Value} {gV : List V → List V → List V}
theorem run_kw {pins : List (Addr × Obj)} {σ : St} {H : Hp} {s : Shared} {Q : VK} {E : XK} {us ws : List Value} {vs zs : List V} (F : FnOk X.prog X.w X.K X.mg X.base CX k f fd ps sp) (hr : Room k X.A) (hb : KBn X.K fd ps n ks g gV)
    (hx : ∀ e s', CX X.stack H s E e s' → X.xe e s') (I : Inv X pins σ H s) (r : Vals vs us) (rz : Vals zs ws) (l1 : vs.length = n) (l2 : zs.length = ks.length) (h : sp (gV vs zs) H Q E) : wpAny (model X.prog X.w) X.A (call (.ref f) us (ks.zip ws)) (EP X pins σ Q) X.xe s := by
  have r2 := hb.rel r rz
  refine wpAny_call (codeAny_mono (F.run X.A X.stack s H ⟨us, ks.zip ws⟩ (g us ws) (gV vs zs) Q E hr I.env0 (hb.to s us ws I.kIn (r.length.symm.trans l1) (rz.length.symm.trans l2)) r2 h) fun r s' hq => ?_)
  cases r with
  | error e => exact hx e s' hq
  | ok fl =>
    cases fl with
    | ret u => exact I.after hq
    | next => exact False.elim hq
    | brk => exact False.elim hq
    | cont => exact False.elim hq
theorem pe_kw {E : St → XK} (F : FnOk X.prog X.w X.K X.mg X.base CX k f fd ps sp) (hr : Room k X.A) (hg : Gl X x) (hm : X.mg x = some (.ref f)) (kp : PySem.W.keepIn X.K (.ref f) = true) (hb : KBn X.K fd ps 0 ks g gV)
    (hx : ∀ (pins : List (Addr × Obj)) (σ : St) (H : Hp) (s : Shared) (e : Value) (s' : Shared), Inv X pins σ H s → CX X.stack H s (E σ) e s' → X.xe e s') (hkw : PK X kws tk)
    (hall : (backToKw pos (keywordEach kws X.env)).all (·.1.isSome) = true := by rfl) (hks : (backToKw pos (keywordEach kws X.env)).filterMap (·.1) = ks := by rfl) (hdb : (x == ("__debug__" : Str)) = false := by decide)
    (hpl : ((backTo pos (starEach [] X.env)).any (·.1) || (backToKw pos (keywordEach kws X.env)).any (·.1.isNone)) = false := by rfl) : PE X (.Call (.Name x p) [] kws pos) (tKw ks.length sp gV E tk) := ⟨fun pn s τ H Q I h => by
  refine wpAny_Call_Name_kw (ld_glob I hg hm ?_ hdb)
  refine PySem.W.callWith_KW0 (h₀ := X.base) I.ok.mod.kin kp hall (thn (hkw.run pos pn s τ H _ I h) fun ws s2 ⟨zs, G, I2, rz, l2, q2⟩ => ⟨I2.kIn, ?_⟩) hpl
  rw [hks]
  exact run_kw F hr hb (fun e s' c => hx pn τ G s2 e s' I2 c) I2 .nil rz rfl l2 q2⟩
end
theorem kw_one {K : PySem.W.Frag} {x qual : Str} {st : Stmt} {f : Addr} {fd : FuncData} {p : Str} (F : Fun K x qual st f fd)
    (h : ∀ (kV doc pm : Value) (an : Option Addr) (cdv ct a : Value), bindArgs (PySem.W.fnOf x qual (defArgs st) (defBody st) (defScope st) .none kV doc pm an cdv ct) ⟨[], [(p, a)]⟩ = pure [(p, a)]) : KBn K fd [p] 0 [p] (fun _ ws => ws) (fun _ zs => zs) := by
  obtain ⟨oc, od, kV, doc, pm, an, cdv, ct, osl, rfl, lk, hcd⟩ := F.ex
  refine ⟨fun s us ws X l1 l2 => ?_, fun _ r => r⟩
  match us, ws, l1, l2 with
  | [], [a], _, _ => exact .of_eq (h kV doc pm an cdv ct a)
theorem suite_hot {X : Cx} {a : Addr} {oe : Obj} {cls : Value} {d : Option Addr} {pn : List (Addr × Obj)} (hz : L2N.Zn cls d oe) (hf : ∃ vs, oe.data = .fields vs) : L2H.HotC (X.suite a ((a, oe) :: pn)) := by
  obtain ⟨vs, e⟩ := hf
  exact ⟨(a, oe), ⟨rfl, vs, e, hz.2.2 vs e⟩, List.mem_cons_self⟩
end L2

set_option Elab.async false
set_option linter.all false
set_option maxRecDepth 100000
set_option maxHeartbeats 4000000
set_option autoImplicit false
/-! What the program tells of a text. -/
namespace K4
open PySem L2 TL
abbrev sTold : Stmt := top 36
def spMeetsZ : Sp := fun vs H Q _ => vs = [.int 0, .int 0] ∧ Q (.bl true) H
def spTold (K : PySem.W.Frag) : Sp := fun vs H Q _ => ∃ (x : V) (b : Bool), vs = [x, .bl b] ∧ ((∃ y : Str, x = .str y ∧ y.length ≤ 100000 ∧ (∀ us, due b y = some us → ∀ (p : Addr) (G : Hp), Same H G → H p = none → G p = some (.tup us) → Q (.ref p) G) ∧ (due b y = none → ∀ G, Same H G → Q (.str "bad") G)) ∨ (NotStr K H x ∧ ∀ G, Same H G → Q (.str "bad") G))
section
variable {P : Program} {w : World} {K : PySem.W.Frag} {mg : Str → Option Value} {base : Heap} {fS : Addr}
theorem ok_meetsH {fd : FuncData} (F : Fun K "_law_meets" "_law_meets" sMeets fS fd) (T : MeetsTxt K mg fS) : L2H.FnH P w K mg base CX0 1 fS fd ["told", "due"] spMeetsZ := by
  obtain ⟨oc, od, kV, doc, pm, an, cdv, ct, osl, rfl, lk, hcd⟩ := F.ex
  refine L2H.fn_ofH lk hcd scMeets (fun vs H Q E h => ?_) fun A outer s H vs Q E p hot hr h => ?_
  · obtain ⟨rfl, _⟩ := h
    rfl
  · obtain ⟨rfl, go⟩ := h
    refine ⟨_, pss_cons (ps_if (pt_cmpR op_isN (pv 1) pe_non (nomark _)) (pss_one (ps_ret (pe_cmpR op_isN (pv 0) pe_non (nomark _)))) pss_nil)
      (pss_cons (ps_if (pt_val (pe_callB call_isi (by rfl) T.isinst (by decide +kernel) (pa_cons (pv 1) (pa_cons (pe_bltn (v := .ty "bool") (u := .type "bool") (by rfl) T.bool (by decide +kernel) (by exact rfl)) pa_nil)))) (pss_one (ps_ret (pe_and (pe_callB call_isi (by rfl) T.isinst (by decide +kernel) (pa_cons (pv 0) (pa_cons (pe_bltn (v := .ty "bool") (u := .type "bool") (by rfl) T.bool (by decide +kernel) (by exact rfl)) pa_nil))) (pe_one (pe_cmpR op_eq (pv 0) (pv 1) (nomark _)))))) pss_nil)
      (pss_cons (ps_if (pt_val (pe_callB call_isi (by rfl) T.isinst (by decide +kernel) (pa_cons (pv 1) (pa_cons (pe_bltn (v := .ty "int") (u := .type "int") (by rfl) T.int (by decide +kernel) (by exact rfl)) pa_nil)))) (pss_one (ps_ret (pe_and (pe_callB call_isi (by rfl) T.isinst (by decide +kernel) (pa_cons (pv 0) (pa_cons (pe_bltn (v := .ty "int") (u := .type "int") (by rfl) T.int (by decide +kernel) (by exact rfl)) pa_nil))) (pe_and (pe_not (pe_callB call_isi (by rfl) T.isinst (by decide +kernel) (pa_cons (pv 0) (pa_cons (pe_bltn (v := .ty "bool") (u := .type "bool") (by rfl) T.bool (by decide +kernel) (by exact rfl)) pa_nil)))) (pe_one (pe_cmpR op_eq (pv 0) (pv 1) (nomark _))))))) pss_nil)
      (pss_cons (ps_if (pt_val (pe_callB call_isi (by rfl) T.isinst (by decide +kernel) (pa_cons (pv 1) (pa_cons (pe_bltn (v := .ty "str") (u := .type "str") (by rfl) T.str (by decide +kernel) (by exact rfl)) pa_nil)))) (pss_one (ps_ret (pe_and (pe_callB call_isi (by rfl) T.isinst (by decide +kernel) (pa_cons (pv 0) (pa_cons (pe_bltn (v := .ty "str") (u := .type "str") (by rfl) T.str (by decide +kernel) (by exact rfl)) pa_nil))) (pe_one (pe_cmpR op_eq (pv 0) (pv 1) (nomark _)))))) pss_nil)
      pss_never))), ?_⟩
    show mTail K _ _ [some (.int 0), some (.int 0), none] H
    exact m_leaf (.int 0) go
variable {B C D fI fA fB : Addr} {dI dA dB dS : FuncData}
structure ToldTxt (P : Program) (w : World) (K : PySem.W.Frag) (mg : Str → Option Value) (base : Heap) (C fA fB fS : Addr) (dA dB dS : FuncData) : Prop where
  okA : FnOk P w K mg base (L2N.CX P w) 5 fA dA ["text"] (spReadS K C true)
  bA : Binds K dA ["text"] []
  gA : mg "read_step" = some (.ref fA)
  kA : PySem.W.keepIn K (.ref fA) = true
  okB : FnOk P w K mg base (L2N.CX P w) 5 fB dB ["text"] (spReadS K C false)
  bB : KBn K dB ["text"] 0 ["text"] (fun _ ws => ws) (fun _ zs => zs)
  gB : mg "read_claim" = some (.ref fB)
  kB : PySem.W.keepIn K (.ref fB) = true
  okS : L2H.FnH P w K mg base CX0 1 fS dS ["told", "due"] spMeetsZ
  bS : Binds K dS ["told", "due"] []
  gS : mg "_law_meets" = some (.ref fS)
  kS : PySem.W.keepIn K (.ref fS) = true
def rInt1 : List V → Hp → VK → Prop := fun xs H Q => (∃ i, xs = [.int i] ∧ Q (.int i) H) ∨ ∃ k, xs = [.bl k] ∧ Q (.int (if k = true then 1 else 0)) H
theorem call_i1 {X : Cx} : CallR X (.type "int") rInt1 := call_int1
theorem scTold : FnScope ["text", "is_step", "e"] ["text", "is_step"] (defScope sTold) := ⟨rfl, rfl, rfl, by decide +kernel, rfl, by decide +kernel, by decide +kernel⟩
theorem ok_told {f : Addr} {fd : FuncData} (F : Fun K "_law_told" "_law_told" sTold f fd) (T : LawTxt mg) (U : ValTxt P w K mg base B C D fI dI) (M : ToldTxt P w K mg base C fA fB fS dA dB dS) : FnOk P w K mg base CX0 6 f fd ["text", "is_step"] (spTold K) := by
  refine F.ok scTold (fun vs H Q E h => ?_) (fun cdv A outer s H vs Q E hr h => ?_)
  · obtain ⟨x, b, rfl, _⟩ := h
    rfl
  · obtain ⟨x, b, rfl, h⟩ := h
    have h1 : Room 1 _ := hr.mono (by decide)
    refine ⟨_, pss_one (L2N.ps_try_as (i := 2) (ts := fun a cls d => tRet (tOp (rIxL K) (tLst (tCons (tC (.str "none")) (tCons (tC (.str "bad")) tNil))) (tCB rInt1 (tCons (tAndV (tCB (rErrIs K cls a d) (tCons (tVar 2) (tCons (tC (.ref B)) tNil)))
        (tAndV (tNotV (tCB (rErrIs K cls a d) (tCons (tVar 2) (tCons (tC (.ref D)) tNil)))) (tCallS spMeetsZ (fun _ => E0) (tCons (tXf a cls d C "at" (tVar 2)) (tCons (tC (.int 0)) tNil))))) tNil))))
      (tb := fun W => tSeq (tIfS (tTest (tVar 1)) (tRet (tCallS (spReadS K C true) (WE W) (tCons (tVar 0) tNil))) tNext) (tRet (tKw 1 (spReadS K C false) (fun _ zs => zs) (WE W) (tCons (tVar 0) tNil))))
      rfl rfl scTold.nd rfl rfl ⟨rfl, by decide, .inl U.gC⟩ takes0N
      (fun W pn xe tk _ => pss_cons (ps_if (by exact pt_val (pv 1)) (pss_one (ps_ret (by exact pe_callS M.okA hr rfl M.gA M.kA M.bA (fun σ => L2N.passAt tk σ) (by exact (pa_cons (pv 0) pa_nil))))) pss_nil)
        (pss_one (ps_ret (by exact pe_kw (ks := ["text"]) M.okB hr rfl M.gB M.kB M.bB (fun pins σ H s e s' I c => L2N.passAt tk σ pins H s e s' I c) (by exact (pk_cons (pv 0) pk_nil))))))
      (fun a oe cls d pn hz hf => pss_one (ps_ret (by exact pe_ix (show IxR _ (rIxL K) from ix_list) (pe_lst (pa_cons pe_str (pa_cons pe_str pa_nil))) (pe_callTy call_i1 (by rfl) T.int (by decide +kernel) (pa_cons
        (pe_and (pe_callB (call_errIs hz.zc hf) (by rfl) T.isinst (by decide +kernel) (pa_cons (pv 2) (pa_cons (pe_glob (by rfl) U.gB (v := .ref B) (by exact rfl)) pa_nil)))
        (pe_and (pe_not (pe_callB (call_errIs hz.zc hf) (by rfl) T.isinst (by decide +kernel) (pa_cons (pv 2) (pa_cons (pe_glob (by rfl) U.gD (v := .ref D) (by exact rfl)) pa_nil))))
        (pe_one (L2H.pe_callH M.okS ⟨h1.dp, h1.un⟩ (suite_hot hz hf) (by rfl) M.gS M.kS M.bS (fun _ _ _ _ _ _ _ h => h.elim) (pa_cons (pe_xf U.xf U.no hz.zc hf (pv 2)) (pa_cons pe_int pa_nil)))))) pa_nil)) (fun _ _ => rfl))))), ?_⟩
    have fin : ∀ {R : VK} {G : Hp} {dd a : Addr}, (∀ G', Same G G' → R (.str "bad") G') → (G dd = none) → tOp (rIxL K) (tLst (tCons (tC (.str "none")) (tCons (tC (.str "bad")) tNil))) (tCB rInt1 (tCons (tAndV (tCB (rErrIs K (.ref C) a (some dd)) (tCons (tVar 2) (tCons (tC (.ref B)) tNil)))
        (tAndV (tNotV (tCB (rErrIs K (.ref C) a (some dd)) (tCons (tVar 2) (tCons (tC (.ref D)) tNil)))) (tCallS spMeetsZ (fun _ => E0) (tCons (tXf a (.ref C) (some dd) C "at" (tVar 2)) (tCons (tC (.int 0)) tNil))))) tNil)) [some x, some (.bl b), some (.ref a)] (upd G dd (.xd [("at", .int 0)])) R := by
      intro R G dd a q nd
      refine ⟨by show 2 ≤ sizeLine; decide, fun l nl => ?_⟩
      have dl : dd ≠ l := fun z => by rw [z, upd_same] at nl; cases nl
      have hx : upd (upd G dd (.xd [("at", .int 0)])) l (.lst [.str "none", .str "bad"]) dd = some (.xd [("at", .int 0)]) := (upd_ne dl).trans upd_same
      have hl : upd (upd G dd (.xd [("at", .int 0)])) l (.lst [.str "none", .str "bad"]) l = some (.lst [.str "none", .str "bad"]) := upd_same
      have sG : Same G (upd (upd G dd (.xd [("at", .int 0)])) l (.lst [.str "none", .str "bad"])) := (same_new nd).trans (same_new nl)
      generalize upd (upd G dd (.xd [("at", .int 0)])) l (.lst [.str "none", .str "bad"]) = G2 at hx hl sG
      refine ⟨_, rfl, C, .ref B, .ref B, true, rfl, U.ask, rfl, .own _, fun d' e => by cases e; exact ⟨_, hx⟩, U.kit, true, rfl, ifY rfl ?_⟩
      refine ⟨_, rfl, C, .ref D, .ref D, false, rfl, U.ask, rfl, .own _, fun d' e => by cases e; exact ⟨_, hx⟩, U.kitD, false, rfl, true, rfl, ifY rfl ?_⟩
      refine ⟨_, rfl, rfl, rfl, dd, _, .int 0, rfl, hx, rfl, rfl, .inr ⟨true, rfl, ?_⟩⟩
      exact ⟨l, _, _, _, rfl, rfl, SqL.of hl, rfl, q _ sG⟩
    have fin2 : ∀ {W : XK}, (∀ G dd, Same H G → G dd = none → W (.ref C) (some dd) (upd G dd (.xd [("at", .int 0)]))) → Raises C H W := fun q G dd sG nd => q G dd sG nd
    rcases h with ⟨y, rfl, ly, yes, no⟩ | ⟨ns, go⟩
    · cases b with
      | true =>
        refine ⟨_, rfl, true, rfl, ifY rfl ⟨_, rfl, _, rfl, .inl ⟨y, rfl, ly, yes, fun dn => fin2 fun G dd sG nd => ⟨true, U.exm, fun _ a na => ?_, fun z => (nomatch z)⟩⟩⟩⟩
        exact fin (fun G' s' => no dn G' (sG.trans s')) nd
      | false =>
        refine ⟨_, rfl, false, rfl, ifN rfl ⟨_, rfl, rfl, _, rfl, .inl ⟨y, rfl, ly, yes, fun dn => fin2 fun G dd sG nd => ⟨true, U.exm, fun _ a na => ?_, fun z => (nomatch z)⟩⟩⟩⟩
        exact fin (fun G' s' => no dn G' (sG.trans s')) nd
    · cases b with
      | true =>
        refine ⟨_, rfl, true, rfl, ifY rfl ⟨_, rfl, _, rfl, .inr ⟨ns, fin2 fun G dd sG nd => ⟨true, U.exm, fun _ a na => ?_, fun z => (nomatch z)⟩⟩⟩⟩
        exact fin (fun G' s' => go G' (sG.trans s')) nd
      | false =>
        refine ⟨_, rfl, false, rfl, ifN rfl ⟨_, rfl, rfl, _, rfl, .inr ⟨ns, fin2 fun G dd sG nd => ⟨true, U.exm, fun _ a na => ?_, fun z => (nomatch z)⟩⟩⟩⟩
        exact fin (fun G' s' => go G' (sG.trans s')) nd
end
end K4

set_option Elab.async false
set_option linter.all false
set_option maxRecDepth 100000
set_option maxHeartbeats 4000000
set_option autoImplicit false
/-! A text is spoilt. -/
namespace K4
open PySem L2 TL
abbrev sSpoilt : Stmt := top 37
def cutW (ws : List Str) (lo hi : Option Int) : List Str := (ws.drop (HT.sIx ws.length 0 lo)).take (HT.sIx ws.length ws.length hi - HT.sIx ws.length 0 lo)
theorem cutW_map (ws : List Str) (lo hi : Option Int) : cutV (ws.map V.str) lo hi = (cutW ws lo hi).map V.str := by
  unfold cutV cutW
  rw [List.length_map, List.map_take, List.map_drop]
theorem sum_take (n : Nat) : ∀ l : List Nat, (l.take n).sum ≤ l.sum := by
  induction n with
  | zero => intro l; simp
  | succ n ih =>
    intro l
    cases l with
    | nil => simp
    | cons a l =>
      rw [List.take_succ_cons, List.sum_cons, List.sum_cons]
      have := ih l
      omega
theorem sum_drop (n : Nat) : ∀ l : List Nat, (l.drop n).sum ≤ l.sum := by
  induction n with
  | zero => intro l; simp
  | succ n ih =>
    intro l
    cases l with
    | nil => simp
    | cons a l =>
      rw [List.drop_succ_cons, List.sum_cons]
      have := ih l
      omega
theorem cutW_sum (ws : List Str) (lo hi : Option Int) : ((cutW ws lo hi).map (·.length)).sum ≤ (ws.map (·.length)).sum ∧ (cutW ws lo hi).length ≤ ws.length := by
  unfold cutW
  refine ⟨?_, ?_⟩
  · rw [List.map_take, List.map_drop]
    exact Nat.le_trans (sum_take _ _) (sum_drop _ _)
  · rw [List.length_take, List.length_drop]
    omega
def odd1 : List Str := ["", "A", "abcde", "a1", "0", "-0", "01", "1234567890", "-1234567890", "+1", "1.0", "a-b", "free", "same"]
def odd2 : List Str := ["-", "--1", "a_b", "on_line", "part", "-5", "000", "abcd", "123456789", "-123456789"]
def spSpoilt : Sp := fun vs H Q _ => ∃ (p g c : Addr) (y : Str), vs = [.ref p, .str y] ∧ BagL H p g c ∧ y.length ≤ 1000 ∧ ∀ (z : Str) (G : Hp), BagL G p g c → Bt p g H G → z.length ≤ 10000 → Q (.str z) G
theorem strs_ix {ws : List Str} {z : Int} (z0 : 0 ≤ z) (h : z < ws.length) : ∃ x ∈ ws, atI (ws.map V.str) z = some (V.str x) := by
  obtain ⟨j, rfl⟩ := Int.eq_ofNat_of_zero_le z0
  have hj : j < ws.length := by omega
  exact ⟨ws[j], List.getElem_mem hj, atI_nat (by simp [hj])⟩
section
variable {P : Program} {w : World} {K : PySem.W.Frag} {mg : Str → Option Value} {base : Heap} {fD : Addr} {dD : FuncData}
abbrev NS : List Str := ["bag", "text", "words", "at", "place", "odd", "way"]
theorem scSpoilt : FnScope NS ["bag", "text"] (defScope sSpoilt) := ⟨rfl, rfl, rfl, by decide +kernel, rfl, by decide +kernel, by decide +kernel⟩
theorem ok_spoilt {f : Addr} {fd : FuncData} (F : Fun K "_law_spoilt" "_law_spoilt" sSpoilt f fd) (T : LawTxt mg) (U : DrawTxt P w K mg base fD dD) : FnOk P w K mg base CX0 2 f fd ["bag", "text"] spSpoilt := by
  refine F.ok scSpoilt (fun vs H Q E h => ?_) (fun cdv A outer s H vs Q E hr h => ?_)
  · obtain ⟨p, g, c, y, rfl, _⟩ := h
    rfl
  · obtain ⟨p, g, c, y, rfl, hb, ly, go⟩ := h
    refine ⟨_, pss_cons (ps_set (i := 2) scSpoilt.nd rfl (Or.inl rfl) (pe_split (pv 1) pe_str))
      (pss_cons (ps_set (i := 3) scSpoilt.nd rfl (Or.inl rfl) (pe_call U.ok hr rfl U.g U.k U.b .nil pass0 (pa_cons (pv 0) (pa_cons (pe_callB call_len_seq (by rfl) T.len PySem.boot_len (pa_cons (pv 2) pa_nil)) pa_nil))))
      (pss_cons (ps_set (i := 4) scSpoilt.nd rfl (Or.inl rfl) (pe_call U.ok hr rfl U.g U.k U.b .nil pass0 (pa_cons (pv 0) (pa_cons (pe_op op_add (pe_callB call_len_str (by rfl) T.len PySem.boot_len (pa_cons (pv 1) pa_nil)) pe_int) pa_nil))))
      (pss_cons (ps_set (i := 5) scSpoilt.nd rfl (Or.inl rfl) (pe_lst (pa_cons pe_str (pa_cons pe_str (pa_cons pe_str (pa_cons pe_str (pa_cons pe_str (pa_cons pe_str (pa_cons pe_str (pa_cons pe_str (pa_cons pe_str (pa_cons pe_str (pa_cons pe_str (pa_cons pe_str (pa_cons pe_str (pa_cons pe_str pa_nil))))))))))))))))
      (pss_cons (ps_set (i := 5) scSpoilt.nd rfl (Or.inl rfl) (pe_op op_cat (pv 5) (pe_lst (pa_cons pe_str (pa_cons pe_str (pa_cons pe_str (pa_cons pe_str (pa_cons pe_str (pa_cons pe_str (pa_cons pe_str (pa_cons pe_str (pa_cons pe_str (pa_cons pe_str pa_nil)))))))))))))
      (pss_cons (ps_set (i := 6) scSpoilt.nd rfl (Or.inl rfl) (pe_call U.ok hr rfl U.g U.k U.b .nil pass0 (pa_cons (pv 0) (pa_cons pe_int pa_nil))))
      (pss_cons (ps_if (pt_cmpR op_eq (pv 6) pe_int (nomark _)) (pss_one (ps_ret (pe_join pe_str (pe_op op_cat (pe_slice sl_list (pv 2) po_none (po_some (pv 3))) (pe_slice sl_list (pv 2) (po_some (pe_op op_add (pv 3) pe_int)) po_none))))) pss_nil)
      (pss_cons (ps_if (pt_cmpR op_eq (pv 6) pe_int (nomark _)) (pss_one (ps_ret (pe_join pe_str (pe_op op_cat (pe_op op_cat (pe_slice sl_list (pv 2) po_none (po_some (pv 3))) (pe_lst (pa_cons (pe_ix ix_list (pv 5) (pe_call U.ok hr rfl U.g U.k U.b .nil pass0 (pa_cons (pv 0) (pa_cons (pe_callB call_len_seq (by rfl) T.len PySem.boot_len (pa_cons (pv 5) pa_nil)) pa_nil))) (fun _ _ => rfl)) pa_nil))) (pe_slice sl_list (pv 2) (po_some (pv 3)) po_none))))) pss_nil)
      (pss_cons (ps_if (pt_cmpR op_lt (pv 6) pe_int (nomark _)) (pss_one (ps_ret (pe_join pe_str (pe_op op_cat (pe_op op_cat (pe_slice sl_list (pv 2) po_none (po_some (pv 3))) (pe_lst (pa_cons (pe_ix ix_list (pv 5) (pe_call U.ok hr rfl U.g U.k U.b .nil pass0 (pa_cons (pv 0) (pa_cons (pe_callB call_len_seq (by rfl) T.len PySem.boot_len (pa_cons (pv 5) pa_nil)) pa_nil))) (fun _ _ => rfl)) pa_nil))) (pe_slice sl_list (pv 2) (po_some (pe_op op_add (pv 3) pe_int)) po_none))))) pss_nil)
      (pss_cons (ps_if (pt_cmpR op_eq (pv 6) pe_int (nomark _)) (pss_one (ps_ret (pe_op op_add_str (pe_op op_add_str (pe_slice sl_str (pv 1) po_none (po_some (pv 4))) (pe_ix ix_list (pe_lst (pa_cons pe_str (pa_cons pe_str (pa_cons pe_str (pa_cons pe_str (pa_cons pe_str (pa_cons pe_str (pa_cons pe_str (pa_cons pe_str pa_nil))))))))) (pe_call U.ok hr rfl U.g U.k U.b .nil pass0 (pa_cons (pv 0) (pa_cons pe_int pa_nil))) (fun _ _ => rfl))) (pe_slice sl_str (pv 1) (po_some (pv 4)) po_none)))) pss_nil)
      (pss_cons (ps_if (pt_cmpR op_eq (pv 6) pe_int (nomark _)) (pss_one (ps_ret (pe_op op_add_str (pe_slice sl_str (pv 1) po_none (po_some (pv 4))) (pe_slice sl_str (pv 1) (po_some (pe_op op_add (pv 4) pe_int)) po_none)))) pss_nil)
      (pss_cons (ps_if (pt_cmpR op_eq (pv 6) pe_int (nomark _)) (pss_one (ps_ret (pe_ix ix_list (pe_lst (pa_cons (pe_op op_add_str pe_str (pv 1)) (pa_cons (pe_op op_add_str (pv 1) pe_str) (pa_cons (pe_op op_add_str (pv 1) pe_str) (pa_cons pe_str (pa_cons pe_str (pa_cons (pe_op op_add_str (pe_op op_add_str (pv 1) pe_str) (pv 1)) pa_nil))))))) (pe_call U.ok hr rfl U.g U.k U.b .nil pass0 (pa_cons (pv 0) (pa_cons pe_int pa_nil))) (fun _ _ => rfl)))) pss_nil)
      (pss_one (ps_ret (pe_op op_add_str (pe_upper (pe_slice sl_str (pv 1) po_none (po_some (pv 4)))) (pe_slice sl_str (pv 1) (po_some (pv 4)) po_none))))))))))))))), ?_⟩
    obtain ⟨w1, w2, w3⟩ := split_len y
    obtain ⟨u0, ur, ue⟩ := split_ne y
    have wpos : 1 ≤ (Txt.split y " ").length := by rw [ue, List.length_cons]; omega
    refine ⟨_, rfl, ⟨_, rfl⟩, _, _, rfl, rfl, by decide +kernel, by rw [sizeLine_eq]; omega, fun a na => ?_⟩
    generalize Txt.split y " " = ws at w1 w2 w3 wpos
    clear ue
    obtain ⟨ap, ag, ac⟩ := hb.ne na
    have b1 := hb.up (o := .lst (ws.map V.str)) na
    have t1 : Bt p g H (upd H a (.lst (ws.map V.str))) := Bt.new na
    have a1 : upd H a (.lst (ws.map V.str)) a = some (.lst (ws.map V.str)) := upd_same
    refine (?_ : gName 2 (V.ref a) _ (upd H a (.lst (ws.map V.str))) _)
    generalize upd H a (.lst (ws.map V.str)) = G1 at b1 t1 a1 ⊢
    refine ⟨_, rfl, _, rfl, a, _, rfl, .inl (SqL.of a1), p, g, c, _, rfl, b1, by rw [List.length_map]; omega, by rw [List.length_map]; omega, fun z1 G2 z10 z11 b2 t2 => ?_⟩
    have a2 := t2 _ _ ap ag a1
    have t3 := t1.trans t2
    clear b1 t1 a1 t2
    refine ⟨_, rfl, _, rfl, y, rfl, by rw [sizeLine_eq]; omega, _, _, rfl, rfl, p, g, c, _, rfl, b2, by omega, by omega, fun z2 G3 z20 z21 b3 t4 => ?_⟩
    have a3 := t4 _ _ ap ag a2
    have t5 := t3.trans t4
    clear b2 a2 t3 t4
    refine ⟨by show 14 ≤ sizeLine; decide, fun o1 no1 => ?_⟩
    obtain ⟨op1, og1, _⟩ := b3.ne no1
    refine ⟨_, rfl, by show 10 ≤ sizeLine; decide, fun o2 no2 => ?_⟩
    have o12 : o1 ≠ o2 := fun z => by rw [z] at no2; rw [upd_same] at no2; cases no2
    refine ⟨o1, o2, odd1.map V.str, odd2.map V.str, rfl, rfl, (upd_ne o12).trans upd_same, upd_same, by decide, fun o no => ?_⟩
    have o2o : o2 ≠ o := fun z => by rw [z] at no; rw [upd_same] at no; cases no
    have b4 := ((b3.up (o := .lst (odd1.map V.str)) no1).up (o := .lst (odd2.map V.str)) no2).up (o := .lst (odd1.map V.str ++ odd2.map V.str)) no
    have t6 := ((t5.trans (Bt.new (o := .lst (odd1.map V.str)) no1)).trans (Bt.new (o := .lst (odd2.map V.str)) no2)).trans (Bt.new (o := .lst (odd1.map V.str ++ odd2.map V.str)) no)
    have s3 : Same G3 (upd (upd (upd G3 o1 (.lst (odd1.map V.str))) o2 (.lst (odd2.map V.str))) o (.lst (odd1.map V.str ++ odd2.map V.str))) := ((same_new no1).trans (same_new no2)).trans (same_new no)
    have a4 := s3 _ _ a3
    have o4 : upd (upd (upd G3 o1 (.lst (odd1.map V.str))) o2 (.lst (odd2.map V.str))) o (.lst (odd1.map V.str ++ odd2.map V.str)) o = some (.lst ((odd1 ++ odd2).map V.str)) := by rw [upd_same, List.map_append]
    obtain ⟨op, og, _⟩ := ((b3.up (o := .lst (odd1.map V.str)) no1).up (o := .lst (odd2.map V.str)) no2).ne no
    refine (?_ : gName 5 (V.ref o) _ (upd (upd (upd G3 o1 (.lst (odd1.map V.str))) o2 (.lst (odd2.map V.str))) o (.lst (odd1.map V.str ++ odd2.map V.str))) _)
    generalize upd (upd (upd G3 o1 (.lst (odd1.map V.str))) o2 (.lst (odd2.map V.str))) o (.lst (odd1.map V.str ++ odd2.map V.str)) = G4 at b4 t6 a4 o4 ⊢
    clear s3 no1 no2 no o12 o2o b3 a3 t5
    refine ⟨_, rfl, p, g, c, 8, rfl, b4, by decide, by decide, fun z3 G5 z30 z31 b5 t7 => ?_⟩
    have a5 := t7 _ _ ap ag a4
    have o5 := t7 _ _ op og o4
    have t8 := t6.trans t7
    clear b4 t6 a4 o4 t7
    have fin : ∀ {G : Hp} {ys : List Str}, BagL G p g c → Bt p g H G → (ys.map (·.length)).sum ≤ 3000 → ys.length ≤ 3010 → Q (.str (Txt.join " " ys)) G := fun {G ys} bG tG h1 h2 => go _ G bG tG (by have := join_len ys; omega)
    have sep : ((" " : Str)).length = 1 := by decide +kernel
    have oddl : ∀ x ∈ odd1 ++ odd2, x.length ≤ 12 := by decide +kernel
    have oddn : (odd1 ++ odd2).length = 24 := by decide
    refine ⟨_, rfl, rfl, _, rfl, ite2 (fun _ => ?_) (fun _ => ?_)⟩
    · refine ⟨⟨_, rfl⟩, _, rfl, _, rfl, _, rfl, a, _, rfl, SqL.of a5, fun l1 n1 => ?_⟩
      rw [cutW_map]
      obtain ⟨q1, q2⟩ := cutW_sum ws none (some z1)
      refine ⟨_, rfl, _, rfl, _, _, rfl, rfl, _, rfl, a, _, rfl, SqL.of ((upd_ne (ne_of_none a5 n1)).trans a5), fun l2 n2 => ?_⟩
      rw [cutW_map]
      obtain ⟨q3, q4⟩ := cutW_sum ws (some (z1 + 1)) none
      have l12 : l1 ≠ l2 := fun z => by rw [z] at n2; rw [upd_same] at n2; cases n2
      refine ⟨l1, l2, _, _, rfl, rfl, (upd_ne l12).trans upd_same, upd_same, by rw [List.length_map, List.length_map, sizeLine_eq]; omega, fun l3 n3 => ?_⟩
      refine ⟨_, l3, cutW ws none (some z1) ++ cutW ws (some (z1 + 1)) none, rfl, rfl, .inl (SqL.of (by rw [upd_same, List.map_append])), ?_, fin ((((b5.up n1).up n2).up n3)) ((((t8.trans (Bt.new n1)).trans (Bt.new n2)).trans (Bt.new n3))) ?_ ?_⟩
      · rw [sep, List.map_append, List.sum_append, List.length_append]
        omega
      · rw [List.map_append, List.sum_append]
        omega
      · rw [List.length_append]
        omega
    refine ⟨_, rfl, rfl, _, rfl, ite2 (fun _ => ?_) (fun _ => ?_)⟩
    · refine ⟨⟨_, rfl⟩, _, rfl, _, rfl, _, rfl, a, _, rfl, SqL.of a5, fun l1 n1 => ?_⟩
      rw [cutW_map]
      obtain ⟨q1, q2⟩ := cutW_sum ws none (some z1)
      have o6 : upd G5 l1 (.lst ((cutW ws none (some z1)).map V.str)) o = some (.lst ((odd1 ++ odd2).map V.str)) := (upd_ne (ne_of_none o5 n1)).trans o5
      have a6 : upd G5 l1 (.lst ((cutW ws none (some z1)).map V.str)) a = some (.lst (ws.map V.str)) := (upd_ne (ne_of_none a5 n1)).trans a5
      have l6 : upd G5 l1 (.lst ((cutW ws none (some z1)).map V.str)) l1 = some (.lst ((cutW ws none (some z1)).map V.str)) := upd_same
      have b6 := b5.up (o := .lst ((cutW ws none (some z1)).map V.str)) n1
      have t9 := t8.trans (Bt.new (o := .lst ((cutW ws none (some z1)).map V.str)) n1)
      obtain ⟨lp, lg, _⟩ := b5.ne n1
      generalize upd G5 l1 (.lst ((cutW ws none (some z1)).map V.str)) = G6 at o6 a6 l6 b6 t9 ⊢
      refine ⟨_, rfl, _, rfl, _, rfl, o, _, rfl, .inl (SqL.of o6), p, g, c, _, rfl, b6, by rw [List.length_map, oddn]; decide, by rw [List.length_map, oddn]; decide, fun z4 G7 z40 z41 b7 t10 => ?_⟩
      rw [List.length_map] at z41
      obtain ⟨x, hx, ex⟩ := strs_ix z40 z41
      have lx := oddl x hx
      refine ⟨o, _, _, _, rfl, rfl, SqL.of (t10 _ _ op og o6), ex, by show 1 ≤ sizeLine; decide, fun l2 n2 => ?_⟩
      have l7 := t10 _ _ lp lg l6
      have a7 := t10 _ _ ap ag a6
      have l12 : l1 ≠ l2 := ne_of_none l7 n2
      refine ⟨l1, l2, _, _, rfl, rfl, (upd_ne l12).trans l7, upd_same, by rw [List.length_map, sizeLine_eq]; show _ + 1 ≤ _; omega, fun l3 n3 => ?_⟩
      have a8 : upd (upd G7 l2 (.lst [V.str x])) l3 (.lst ((cutW ws none (some z1)).map V.str ++ [V.str x])) a = some (.lst (ws.map V.str)) := same_new n3 _ _ (same_new n2 _ _ a7)
      refine ⟨_, rfl, _, rfl, _, rfl, a, _, rfl, SqL.of a8, fun l4 n4 => ?_⟩
      rw [cutW_map]
      obtain ⟨q3, q4⟩ := cutW_sum ws (some z1) none
      have l34 : l3 ≠ l4 := fun z => by rw [z] at n4; rw [upd_same] at n4; cases n4
      refine ⟨l3, l4, _, _, rfl, rfl, (upd_ne l34).trans upd_same, upd_same, by rw [List.length_append, List.length_map, List.length_map, sizeLine_eq]; show _ + 1 + _ ≤ _; omega, fun l5 n5 => ?_⟩
      refine ⟨_, l5, cutW ws none (some z1) ++ [x] ++ cutW ws (some z1) none, rfl, rfl, .inl (SqL.of (by rw [upd_same, List.map_append, List.map_append]; rfl)), ?_, fin (((((b7.up n2).up n3).up n4).up n5)) (((((t9.trans t10).trans (Bt.new n2)).trans (Bt.new n3)).trans (Bt.new n4)).trans (Bt.new n5)) ?_ ?_⟩
      · rw [sep, List.map_append, List.map_append, List.sum_append, List.sum_append, List.length_append, List.length_append]
        simp
        omega
      · rw [List.map_append, List.map_append, List.sum_append, List.sum_append]
        simp
        omega
      · rw [List.length_append, List.length_append]
        simp
        omega
    refine ⟨_, rfl, _, _, rfl, rfl, _, rfl, ite2 (fun _ => ?_) (fun _ => ?_)⟩
    · refine ⟨⟨_, rfl⟩, _, rfl, _, rfl, _, rfl, a, _, rfl, SqL.of a5, fun l1 n1 => ?_⟩
      rw [cutW_map]
      obtain ⟨q1, q2⟩ := cutW_sum ws none (some z1)
      have o6 : upd G5 l1 (.lst ((cutW ws none (some z1)).map V.str)) o = some (.lst ((odd1 ++ odd2).map V.str)) := (upd_ne (ne_of_none o5 n1)).trans o5
      have a6 : upd G5 l1 (.lst ((cutW ws none (some z1)).map V.str)) a = some (.lst (ws.map V.str)) := (upd_ne (ne_of_none a5 n1)).trans a5
      have l6 : upd G5 l1 (.lst ((cutW ws none (some z1)).map V.str)) l1 = some (.lst ((cutW ws none (some z1)).map V.str)) := upd_same
      have b6 := b5.up (o := .lst ((cutW ws none (some z1)).map V.str)) n1
      have t9 := t8.trans (Bt.new (o := .lst ((cutW ws none (some z1)).map V.str)) n1)
      obtain ⟨lp, lg, _⟩ := b5.ne n1
      generalize upd G5 l1 (.lst ((cutW ws none (some z1)).map V.str)) = G6 at o6 a6 l6 b6 t9 ⊢
      refine ⟨_, rfl, _, rfl, _, rfl, o, _, rfl, .inl (SqL.of o6), p, g, c, _, rfl, b6, by rw [List.length_map, oddn]; decide, by rw [List.length_map, oddn]; decide, fun z4 G7 z40 z41 b7 t10 => ?_⟩
      rw [List.length_map] at z41
      obtain ⟨x, hx, ex⟩ := strs_ix z40 z41
      have lx := oddl x hx
      refine ⟨o, _, _, _, rfl, rfl, SqL.of (t10 _ _ op og o6), ex, by show 1 ≤ sizeLine; decide, fun l2 n2 => ?_⟩
      have l7 := t10 _ _ lp lg l6
      have a7 := t10 _ _ ap ag a6
      have l12 : l1 ≠ l2 := ne_of_none l7 n2
      refine ⟨l1, l2, _, _, rfl, rfl, (upd_ne l12).trans l7, upd_same, by rw [List.length_map, sizeLine_eq]; show _ + 1 ≤ _; omega, fun l3 n3 => ?_⟩
      have a8 : upd (upd G7 l2 (.lst [V.str x])) l3 (.lst ((cutW ws none (some z1)).map V.str ++ [V.str x])) a = some (.lst (ws.map V.str)) := same_new n3 _ _ (same_new n2 _ _ a7)
      refine ⟨_, rfl, _, rfl, _, _, rfl, rfl, _, rfl, a, _, rfl, SqL.of a8, fun l4 n4 => ?_⟩
      rw [cutW_map]
      obtain ⟨q3, q4⟩ := cutW_sum ws (some (z1 + 1)) none
      have l34 : l3 ≠ l4 := fun z => by rw [z] at n4; rw [upd_same] at n4; cases n4
      refine ⟨l3, l4, _, _, rfl, rfl, (upd_ne l34).trans upd_same, upd_same, by rw [List.length_append, List.length_map, List.length_map, sizeLine_eq]; show _ + 1 + _ ≤ _; omega, fun l5 n5 => ?_⟩
      refine ⟨_, l5, cutW ws none (some z1) ++ [x] ++ cutW ws (some (z1 + 1)) none, rfl, rfl, .inl (SqL.of (by rw [upd_same, List.map_append, List.map_append]; rfl)), ?_, fin (((((b7.up n2).up n3).up n4).up n5)) (((((t9.trans t10).trans (Bt.new n2)).trans (Bt.new n3)).trans (Bt.new n4)).trans (Bt.new n5)) ?_ ?_⟩
      · rw [sep, List.map_append, List.map_append, List.sum_append, List.sum_append, List.length_append, List.length_append]
        simp
        omega
      · rw [List.map_append, List.map_append, List.sum_append, List.sum_append]
        simp
        omega
      · rw [List.length_append, List.length_append]
        simp
        omega
    have yl : y.length ≤ sizeLine := by rw [sizeLine_eq]; omega
    have c1 := cutS_length y none (some z2)
    have c2 := cutS_length y (some z2) none
    have c3 := cutS_length y (some (z2 + 1)) none
    refine ⟨_, rfl, rfl, _, rfl, ite2 (fun _ => ?_) (fun _ => ?_)⟩
    · refine ⟨_, rfl, _, rfl, _, rfl, y, rfl, yl, ?_⟩
      refine ⟨by show 8 ≤ sizeLine; decide, fun l1 n1 => ?_⟩
      obtain ⟨lp, lg, _⟩ := b5.ne n1
      refine ⟨_, rfl, p, g, c, 8, rfl, b5.up n1, by decide, by decide, fun z4 G7 z40 z41 b7 t10 => ?_⟩
      obtain ⟨x, hx, ex⟩ := strs_ix (ws := [" ", "\n", "a", "0", "-", "_", ".", "A"]) z40 z41
      have lx : x.length ≤ 1 := (by decide +kernel : ∀ x ∈ ([" ", "\n", "a", "0", "-", "_", ".", "A"] : List Str), x.length ≤ 1) x hx
      refine ⟨l1, _, _, _, rfl, rfl, SqL.of (t10 _ _ lp lg upd_same), ex, _, _, rfl, rfl, by rw [sizeLine_eq]; omega, _, rfl, _, rfl, _, rfl, y, rfl, yl, _, _, rfl, rfl, by rw [strLen_append, sizeLine_eq]; omega, go _ _ b7 ((t8.trans (Bt.new n1)).trans t10) ?_⟩
      rw [strLen_append, strLen_append]
      omega
    refine ⟨_, rfl, rfl, _, rfl, ite2 (fun _ => ?_) (fun _ => ?_)⟩
    · refine ⟨_, rfl, _, rfl, _, rfl, y, rfl, yl, _, rfl, _, rfl, _, _, rfl, rfl, _, rfl, y, rfl, yl, _, _, rfl, rfl, by rw [sizeLine_eq]; omega, go _ _ b5 t8 ?_⟩
      rw [strLen_append]
      omega
    refine ⟨_, rfl, rfl, _, rfl, ite2 (fun _ => ?_) (fun _ => ?_)⟩
    · have nl1 : ("\n" : Str).length = 1 := by decide +kernel
      refine ⟨_, rfl, _, _, rfl, rfl, by rw [sep, sizeLine_eq]; omega, _, rfl, _, _, rfl, rfl, by rw [sep, sizeLine_eq]; omega, _, rfl, _, _, rfl, rfl, by rw [nl1, sizeLine_eq]; omega, _, rfl, _, _, rfl, rfl, by rw [sep, sizeLine_eq]; omega, _, rfl, _, _, rfl, rfl, by rw [strLen_append, sep, sizeLine_eq]; omega, by show 6 ≤ sizeLine; decide, fun l1 n1 => ?_⟩
      obtain ⟨lp, lg, _⟩ := b5.ne n1
      refine ⟨_, rfl, p, g, c, 6, rfl, b5.up n1, by decide, by decide, fun z4 G7 z40 z41 b7 t10 => ?_⟩
      obtain ⟨x, hx, ex⟩ := strs_ix (ws := [" " ++ y, y ++ " ", y ++ "\n", "", " ", y ++ " " ++ y]) z40 z41
      have lx : x.length ≤ 2001 := by
        have : x = " " ++ y ∨ x = y ++ " " ∨ x = y ++ "\n" ∨ x = "" ∨ x = " " ∨ x = y ++ " " ++ y := by simpa using hx
        have e0 : ("" : Str).length = 0 := by decide +kernel
        rcases this with rfl | rfl | rfl | rfl | rfl | rfl
        · rw [strLen_append, sep]; omega
        · rw [strLen_append, sep]; omega
        · rw [strLen_append, nl1]; omega
        · omega
        · omega
        · rw [strLen_append, strLen_append, sep]; omega
      exact ⟨l1, _, _, _, rfl, rfl, SqL.of (t10 _ _ lp lg upd_same), ex, go _ _ b7 ((t8.trans (Bt.new n1)).trans t10) (by omega)⟩
    have c4 := PyProof.Rows.len_upper (cutS y none (some z2))
    refine ⟨_, rfl, _, rfl, _, rfl, y, rfl, yl, ⟨_, rfl⟩, _, rfl, rfl, by omega, _, rfl, _, rfl, _, rfl, y, rfl, yl, _, _, rfl, rfl, by rw [sizeLine_eq]; omega, go _ _ b5 t8 ?_⟩
    rw [strLen_append]
    omega
end
end K4

set_option Elab.async false
set_option linter.all false
set_option maxRecDepth 100000
set_option maxHeartbeats 4000000
set_option autoImplicit false
/-! Integers are read as the law reads them. -/
namespace K4
open PySem L2 TL
abbrev sInts : Stmt := top 38
theorem due_atoms {b : Bool} {y : Str} {us : List V} (h : due b y = some us) : us.length ≤ 1000 ∧ ∀ v ∈ us, Atom v := by
  unfold due at h
  obtain ⟨z, r, e⟩ := split_ne y
  rw [e] at h
  cases sh : shapeOf b z with
  | none => rw [formed_none sh] at h; cases h
  | some nk =>
    obtain ⟨n, k⟩ := nk
    obtain ⟨n1, n6, k2⟩ := shape_lim sh
    rw [formed_some sh] at h
    split at h
    · rename_i q
      cases h
      refine ⟨?_, fun v hv => ?_⟩
      · rw [List.length_cons, List.length_append, List.length_map, List.length_map, List.length_take, List.length_drop]
        omega
      · rcases List.mem_cons.mp hv with hv | hv
        · rw [hv]; exact .str z
        · rcases List.mem_append.mp hv with hv | hv
          · obtain ⟨x, _, rfl⟩ := List.mem_map.mp hv
            exact .str x
          · obtain ⟨x, _, rfl⟩ := List.mem_map.mp hv
            exact .int _
    · cases h
/-- v is what is due of y -/
def DueV (G : Hp) (b : Bool) (y : Str) (v : V) : Prop := (∃ us q, due b y = some us ∧ v = .ref q ∧ G q = some (.tup us)) ∨ (due b y = none ∧ v = .str "bad")
theorem told_read {K : PySem.W.Frag} {G : Hp} {b : Bool} {y : Str} {v : V} {R : VK} {E : XK} (h : DueV G b y v) (ly : y.length ≤ 100000)
    (go : ∀ u G', Same G G' → (∀ (Q : VK) (E : XK), (∀ G2, Same G' G2 → Q (.bl true) G2) → spMeets [u, v] G' Q E) → R u G') : spTold K [.str y, .bl b] G R E := by
  refine ⟨_, _, rfl, .inl ⟨y, rfl, ly, fun us hu p G' s' np hp => ?_, fun hn G' s' => ?_⟩⟩
  · rcases h with ⟨us', q, hu', rfl, hq⟩ | ⟨hn, _⟩
    · rw [hu] at hu'
      cases hu'
      obtain ⟨l, at_⟩ := due_atoms hu
      exact go _ G' s' fun Q E go2 => ⟨_, _, rfl, .inr ⟨p, q, us, rfl, rfl, hp, s' _ _ hq, l, at_⟩, go2⟩
    · rw [hn] at hu; cases hu
  · rcases h with ⟨us', q, hu', _, _⟩ | ⟨_, rfl⟩
    · rw [hn] at hu'; cases hu'
    · exact go _ G' s' fun Q E go2 => ⟨_, _, rfl, .inl ⟨rfl, .str _⟩, go2⟩
structure JudgeTxt (P : Program) (w : World) (K : PySem.W.Frag) (mg : Str → Option Value) (base : Heap) (fF fA fB fT fM : Addr) (dF dA dB dT dM : FuncData) : Prop where
  okF : ∀ b, FnOk P w K mg base CX0 2 fF dF ["text", "shapes"] (spFormed b)
  bF : Binds K dF ["text", "shapes"] []
  gF : mg "_law_formed" = some (.ref fF)
  kF : PySem.W.keepIn K (.ref fF) = true
  okA : FnOk P w K mg base CX0 1 fA dA [] (spShapes true)
  bA : Binds K dA [] []
  gA : mg "_law_step_shapes" = some (.ref fA)
  kA : PySem.W.keepIn K (.ref fA) = true
  okB : FnOk P w K mg base CX0 1 fB dB [] (spShapes false)
  bB : Binds K dB [] []
  gB : mg "_law_claim_shapes" = some (.ref fB)
  kB : PySem.W.keepIn K (.ref fB) = true
  okT : FnOk P w K mg base CX0 6 fT dT ["text", "is_step"] (spTold K)
  bT : Binds K dT ["text", "is_step"] []
  gT : mg "_law_told" = some (.ref fT)
  kT : PySem.W.keepIn K (.ref fT) = true
  okM : FnOk P w K mg base CX0 2 fM dM ["told", "due"] spMeets
  bM : Binds K dM ["told", "due"] []
  gM : mg "_law_meets" = some (.ref fM)
  kM : PySem.W.keepIn K (.ref fM) = true
def row1 : List Str := ["-0", "0", "00", "01", "-01", "+1", "-5", "--5", "-", "1.0", "1234567890", "-1234567890", "123456789"]
def row2 : List Str := ["5", "x", "-123456789"]
def three (x1 x2 : Str) : List Str := ["-0", x1, x2]
theorem formed_both {b : Bool} {y : Str} {d : Addr} {G : Hp} {Q : VK} {E : XK} (hs : ShapesAt G b d) (ly : y.length ≤ 100000) (go : ∀ v G', Same G G' → ((∃ us q, due b y = some us ∧ v = .ref q ∧ G' q = some (.tup us)) ∨ (due b y = none ∧ v = .non)) → Q v G') : spFormed b [.str y, .ref d] G Q E :=
  ⟨y, d, rfl, hs, ly, fun us hu p G' s' np hp => go _ G' s' (.inl ⟨us, p, hu, rfl, hp⟩), fun hn G' s' => go _ G' s' (.inr ⟨hn, rfl⟩)⟩
theorem four_of {ns : List Str} (h : ns.length = 4) : ∃ a b c d, ns = [a, b, c, d] := by
  match ns, h with
  | [a, b, c, d], _ => exact ⟨a, b, c, d, rfl⟩
theorem join_sum {qs : List Str} {n : Nat} (h : ∀ q ∈ qs, q.length ≤ n) : (qs.map (·.length)).sum ≤ qs.length * n := by
  have := sum_le_mul (c := n) (l := qs.map (·.length)) fun x hx => by
    obtain ⟨q, hq, rfl⟩ := List.mem_map.mp hx
    exact h q hq
  rw [List.length_map] at this
  exact this
def spInts : Sp := fun vs H Q _ => ∃ (p g c l : Addr) (ns : List Str), vs = [.ref p, .ref l] ∧ BagL H p g c ∧ H l = some (.lst (ns.map V.str)) ∧ ns.length = 4 ∧ (∀ x ∈ ns, isNm x = true) ∧ ∀ (G : Hp), BagL G p g c → Bt p g H G → Q (.bl true) G
abbrev NI_ : List Str := ["bag", "names", "row", "word", "parts", "due"]
section
variable {P : Program} {w : World} {K : PySem.W.Frag} {mg : Str → Option Value} {base : Heap} {fD fF fA fB fT fM : Addr} {dD dF dA dB dT dM : FuncData}
theorem scInts : FnScope NI_ ["bag", "names"] (defScope sInts) := ⟨rfl, rfl, rfl, by decide +kernel, rfl, by decide +kernel, by decide +kernel⟩
theorem ok_ints {f : Addr} {fd : FuncData} (F : Fun K "_law_are_integers_read" "_law_are_integers_read" sInts f fd) (T : LawTxt mg) (U : DrawTxt P w K mg base fD dD) (J : JudgeTxt P w K mg base fF fA fB fT fM dF dA dB dT dM) : FnOk P w K mg base CX0 7 f fd ["bag", "names"] spInts := by
  refine F.ok scInts (fun vs H Q E h => ?_) (fun cdv A outer s H vs Q E hr h => ?_)
  · obtain ⟨p, g, c, l, ns, rfl, _⟩ := h
    rfl
  · obtain ⟨p, g, c, l, ns, rfl, hb, hl, nl, nn, go⟩ := h
    have h1 : Room 1 _ := hr.mono (by decide)
    have h2 : Room 2 _ := hr.mono (by decide)
    refine ⟨_, pss_cons (ps_set (i := 2) scInts.nd rfl (Or.inl rfl) (pe_lst (pa_cons pe_str (pa_cons pe_str (pa_cons pe_str (pa_cons pe_str (pa_cons pe_str (pa_cons pe_str (pa_cons pe_str (pa_cons pe_str (pa_cons pe_str (pa_cons pe_str (pa_cons pe_str (pa_cons pe_str (pa_cons pe_str pa_nil)))))))))))))))
      (pss_cons (ps_set (i := 2) scInts.nd rfl (Or.inl rfl) (pe_op op_cat (pv 2) (pe_lst (pa_cons pe_str (pa_cons pe_str (pa_cons pe_str pa_nil))))))
      (pss_cons (ps_for PassesOwn.never rfl (pi_list (pe_lst (pa_cons pe_str (pa_cons (pe_ix ix_list (pv 2) (pe_call U.ok h1 rfl U.g U.k U.b .nil pass0 (pa_cons (pv 0) (pa_cons (pe_callB call_len_seq (by rfl) T.len PySem.boot_len (pa_cons (pv 2) pa_nil)) pa_nil))) (fun _ _ => rfl))
            (pa_cons (pe_ix ix_list (pv 2) (pe_call U.ok h1 rfl U.g U.k U.b .nil pass0 (pa_cons (pv 0) (pa_cons (pe_callB call_len_seq (by rfl) T.len PySem.boot_len (pa_cons (pv 2) pa_nil)) pa_nil))) (fun _ _ => rfl)) pa_nil))))) (pg_name (i := 3) scInts.nd rfl (Or.inl rfl))
        (pss_cons (ps_set (i := 4) scInts.nd rfl (Or.inl rfl) (pe_op op_cat (pe_op op_cat (pe_lst (pa_cons pe_str pa_nil)) (pe_slice sl_list (pv 1) po_none (po_some pe_int))) (pe_lst (pa_cons pe_str (pa_cons pe_str pa_nil)))))
        (pss_cons (ps_asg (pv 3) (pg_sub (pv 4) (pe_op op_add pe_int (pe_call U.ok h1 rfl U.g U.k U.b .nil pass0 (pa_cons (pv 0) (pa_cons pe_int pa_nil)))) set_list))
        (pss_cons (ps_set (i := 5) scInts.nd rfl (Or.inl rfl) (pe_call (J.okF true) h2 rfl J.gF J.kF J.bF .nil pass0 (pa_cons (pe_join pe_str (pv 4)) (pa_cons (pe_call0 J.okA h1 rfl J.gA J.kA J.bA .nil pass0) pa_nil))))
        (C8.pss_cut (ps_if (pt_cmpR op_isN (pv 5) pe_non (nomark _)) (pss_one (ps_set (i := 5) scInts.nd rfl (Or.inl rfl) pe_str)) pss_nil)
        (pss_one (ps_if (pt_not (pt_val (pe_call J.okM h2 rfl J.gM J.kM J.bM .nil pass0 (pa_cons (pe_call J.okT hr rfl J.gT J.kT J.bT .nil pass0 (pa_cons (pe_join pe_str (pv 4)) (pa_cons pe_bl pa_nil))) (pa_cons (pv 5) pa_nil))))) (pss_one (ps_ret pe_bl)) pss_nil)))))))
      (pss_one (ps_ret pe_bl)))), ?_⟩
    obtain ⟨lp, lg, _⟩ := hb.ne_strs hl (by intro e; rw [e] at nl; cases nl)
    refine ⟨by show 13 ≤ sizeLine; decide, fun o1 no1 => ?_⟩
    refine ⟨_, rfl, by show 3 ≤ sizeLine; decide, fun o2 no2 => ?_⟩
    have o12 : o1 ≠ o2 := fun z => by rw [z] at no2; rw [upd_same] at no2; cases no2
    refine ⟨o1, o2, row1.map V.str, row2.map V.str, rfl, rfl, (upd_ne o12).trans upd_same, upd_same, by decide, fun o no => ?_⟩
    have b4 := ((hb.up (o := .lst (row1.map V.str)) no1).up (o := .lst (row2.map V.str)) no2).up (o := .lst (row1.map V.str ++ row2.map V.str)) no
    have s3 : Same H (upd (upd (upd H o1 (.lst (row1.map V.str))) o2 (.lst (row2.map V.str))) o (.lst (row1.map V.str ++ row2.map V.str))) := ((same_new no1).trans (same_new no2)).trans (same_new no)
    have l4 := s3 _ _ hl
    have t4 : Bt p g H _ := Bt.same s3
    have o4 : upd (upd (upd H o1 (.lst (row1.map V.str))) o2 (.lst (row2.map V.str))) o (.lst (row1.map V.str ++ row2.map V.str)) o = some (.lst ((row1 ++ row2).map V.str)) := by rw [upd_same, List.map_append]
    obtain ⟨op, og, _⟩ := ((hb.up (o := .lst (row1.map V.str)) no1).up (o := .lst (row2.map V.str)) no2).ne no
    refine (?_ : gName 2 (V.ref o) _ (upd (upd (upd H o1 (.lst (row1.map V.str))) o2 (.lst (row2.map V.str))) o (.lst (row1.map V.str ++ row2.map V.str))) _)
    generalize upd (upd (upd H o1 (.lst (row1.map V.str))) o2 (.lst (row2.map V.str))) o (.lst (row1.map V.str ++ row2.map V.str)) = G4 at b4 t4 l4 o4 ⊢
    clear s3 no1 no2 no o12
    have rl : ∀ x ∈ row1 ++ row2, x.length ≤ 12 := by decide +kernel
    have rn : (row1 ++ row2).length = 16 := by decide
    refine ⟨_, rfl, _, rfl, _, rfl, o, _, rfl, .inl (SqL.of o4), p, g, c, _, rfl, b4, by rw [List.length_map, rn]; decide, by rw [List.length_map, rn]; decide, fun z1 G5 z10 z11 b5 t5 => ?_⟩
    rw [List.length_map] at z11
    obtain ⟨x1, hx1, ex1⟩ := strs_ix z10 z11
    have o5 := t5 _ _ op og o4
    refine ⟨o, _, _, _, rfl, rfl, SqL.of o5, ex1, ?_⟩
    refine ⟨_, rfl, _, rfl, _, rfl, o, _, rfl, .inl (SqL.of o5), p, g, c, _, rfl, b5, by rw [List.length_map, rn]; decide, by rw [List.length_map, rn]; decide, fun z2 G6 z20 z21 b6 t6 => ?_⟩
    rw [List.length_map] at z21
    obtain ⟨x2, hx2, ex2⟩ := strs_ix z20 z21
    have o6 := t6 _ _ op og o5
    have l6 := t6 _ _ lp lg (t5 _ _ lp lg l4)
    have t7 := (t4.trans t5).trans t6
    refine ⟨o, _, _, _, rfl, rfl, SqL.of o6, ex2, by show 3 ≤ sizeLine; decide, fun wl nwl => ?_⟩
    obtain ⟨wp, wg, _⟩ := b6.ne nwl
    have wo : wl ≠ l := fun z => by rw [z, l6] at nwl; cases nwl
    have Hw := t7.none wp wg nwl
    have xl : ∀ x ∈ three x1 x2, Str.length x ≤ 12 := fun x hx => by
      have : x = "-0" ∨ x = x1 ∨ x = x2 := by simpa [three] using hx
      rcases this with rfl | rfl | rfl
      · decide +kernel
      · exact rl _ hx1
      · exact rl _ hx2
    have b8 := b6.up (o := .lst ((three x1 x2).map V.str)) nwl
    have t8 := t7.trans (Bt.new (o := .lst ((three x1 x2).map V.str)) nwl)
    have w8 : upd G6 wl (.lst ((three x1 x2).map V.str)) wl = some (.lst ((three x1 x2).map V.str)) := upd_same
    refine ⟨wl, rfl, ⟨_, SqL.of w8⟩, for_list (K := K) (a := wl) (xs := (three x1 x2).map V.str) (fun i σ G => ∃ u3 u4 u5 : Option V, σ = [some (.ref p), some (.ref l), some (.ref o), u3, u4, u5] ∧ BagL G p g c ∧ Bt p g H G ∧ G wl = some (.lst ((three x1 x2).map V.str)))
      ⟨_, _, _, rfl, b8, t8, w8⟩ (fun i σ G _ ⟨_, _, _, _, _, _, h⟩ => SqL.of h) (fun i v σ G hi ⟨u3, u4, u5, hσ, bG, tG, wG⟩ => ?_) (fun σ G ⟨u3, u4, u5, hσ, bG, tG, wG⟩ => ?_)⟩
    · subst hσ
      obtain ⟨x, rfl, hx⟩ := map_str_at hi
      have lx := xl x (List.mem_of_getElem? hx)
      have lG := tG _ _ lp lg hl
      obtain ⟨n0, n1, n2, n3, en⟩ := four_of nl
      have nlen : ∀ y ∈ ns, y.length ≤ 12 := fun y hy => by
        have := (isNm_free (nn y hy)).2.1
        rw [len_tl] at this
        omega
      have w_ne : ∀ {q : Addr} {F : Hp}, Bt p g H F → F wl = some (.lst ((three x1 x2).map V.str)) → F q = none → q ≠ wl := fun _ h n z => by rw [z, h] at n; cases n
      refine ⟨by show 1 ≤ sizeLine; decide, fun c1 nc1 => ?_⟩
      refine ⟨_, rfl, _, rfl, l, _, rfl, SqL.of ((upd_ne (ne_of_none lG nc1)).trans lG), fun c2 nc2 => ?_⟩
      have ec : cutV (ns.map V.str) none (some 3) = [V.str n0, .str n1, .str n2] := by rw [en]; rfl
      rw [ec]
      have c12 : c1 ≠ c2 := fun z => by rw [z] at nc2; rw [upd_same] at nc2; cases nc2
      refine ⟨c1, c2, _, _, rfl, rfl, (upd_ne c12).trans upd_same, upd_same, by show 1 + 3 ≤ sizeLine; decide, fun c3 nc3 => ?_⟩
      refine ⟨by show 2 ≤ sizeLine; decide, fun c4 nc4 => ?_⟩
      have c34 : c3 ≠ c4 := fun z => by rw [z] at nc4; rw [upd_same] at nc4; cases nc4
      refine ⟨c3, c4, _, _, rfl, rfl, (upd_ne c34).trans upd_same, upd_same, by show 4 + 2 ≤ sizeLine; decide, fun q nq => ?_⟩
      have bq := ((((bG.up (o := .lst [V.str "part"]) nc1).up (o := .lst [V.str n0, .str n1, .str n2]) nc2).up (o := .lst ([V.str "part"] ++ [V.str n0, .str n1, .str n2])) nc3).up (o := .lst [V.str "1", .str "2"]) nc4)
      have sq : Same G _ := ((((same_new (o := .lst [V.str "part"]) nc1).trans (same_new (o := .lst [V.str n0, .str n1, .str n2]) nc2)).trans (same_new (o := .lst ([V.str "part"] ++ [V.str n0, .str n1, .str n2])) nc3)).trans (same_new (o := .lst [V.str "1", .str "2"]) nc4)).trans (same_new (o := .lst ([V.str "part"] ++ [V.str n0, .str n1, .str n2] ++ [V.str "1", .str "2"])) nq)
      obtain ⟨qp, qg, qc⟩ := bq.ne nq
      have bq2 := bq.up (o := .lst ([V.str "part"] ++ [V.str n0, .str n1, .str n2] ++ [V.str "1", .str "2"])) nq
      have hq2 : upd (upd (upd (upd (upd G c1 (.lst [V.str "part"])) c2 (.lst [V.str n0, .str n1, .str n2])) c3 (.lst ([V.str "part"] ++ [V.str n0, .str n1, .str n2]))) c4 (.lst [V.str "1", .str "2"])) q (.lst ([V.str "part"] ++ [V.str n0, .str n1, .str n2] ++ [V.str "1", .str "2"])) q = some (.lst [V.str "part", .str n0, .str n1, .str n2, .str "1", .str "2"]) := upd_same
      refine (?_ : gName 4 (V.ref q) _ (upd (upd (upd (upd (upd G c1 (.lst [V.str "part"])) c2 (.lst [V.str n0, .str n1, .str n2])) c3 (.lst ([V.str "part"] ++ [V.str n0, .str n1, .str n2]))) c4 (.lst [V.str "1", .str "2"])) q (.lst ([V.str "part"] ++ [V.str n0, .str n1, .str n2] ++ [V.str "1", .str "2"]))) _)
      have tq : Bt p g H _ := tG.trans (Bt.same sq)
      have wq := sq _ _ wG
      have Gq : G q = none := by
        cases e : G q with
        | none => rfl
        | some o => rw [((((same_new (o := .lst [V.str "part"]) nc1).trans (same_new (o := .lst [V.str n0, .str n1, .str n2]) nc2)).trans (same_new (o := .lst ([V.str "part"] ++ [V.str n0, .str n1, .str n2])) nc3)).trans (same_new (o := .lst [V.str "1", .str "2"]) nc4)) _ _ e] at nq; cases nq
      have Hq := tG.none qp qg Gq
      have qw : wl ≠ q := fun z => by rw [z, Gq] at wG; cases wG
      generalize upd (upd (upd (upd (upd G c1 (.lst [V.str "part"])) c2 (.lst [V.str n0, .str n1, .str n2])) c3 (.lst ([V.str "part"] ++ [V.str n0, .str n1, .str n2]))) c4 (.lst [V.str "1", .str "2"])) q (.lst ([V.str "part"] ++ [V.str n0, .str n1, .str n2] ++ [V.str "1", .str "2"])) = G9 at bq2 hq2 tq wq ⊢
      clear sq bq nc1 nc2 nc3 nc4 nq c12 c34 ec lG
      refine ⟨_, rfl, _, rfl, _, rfl, p, g, c, 2, rfl, bq2, by decide, by decide, fun z3 G10 z30 z31 b10 t10 => ?_⟩
      have hq10 := t10 _ _ qp qg hq2
      have w10 := t10 _ _ wp wg wq
      have t11 := tq.trans t10
      obtain ⟨j, qs, ej, eqs, lq, ql⟩ : ∃ (j : Nat) (qs : List Str), ixN ([V.str "part", .str n0, .str n1, .str n2, .str "1", .str "2"] : List V).length (4 + z3) = some j ∧ [V.str "part", .str n0, .str n1, .str n2, .str "1", .str "2"].set j (V.str x) = qs.map V.str ∧ (∀ y ∈ qs, y.length ≤ 12) ∧ qs.length = 6 := by
        have hp : ("part" : Str).length ≤ 12 ∧ ("1" : Str).length ≤ 12 ∧ ("2" : Str).length ≤ 12 := by decide +kernel
        have m0 := nlen n0 (by rw [en]; simp)
        have m1 := nlen n1 (by rw [en]; simp)
        have m2 := nlen n2 (by rw [en]; simp)
        have : z3 = 0 ∨ z3 = 1 := by omega
        rcases this with rfl | rfl
        · refine ⟨4, ["part", n0, n1, n2, x, "2"], rfl, rfl, fun y hy => ?_, rfl⟩
          have : y = "part" ∨ y = n0 ∨ y = n1 ∨ y = n2 ∨ y = x ∨ y = "2" := by simpa using hy
          rcases this with rfl | rfl | rfl | rfl | rfl | rfl <;> omega
        · refine ⟨5, ["part", n0, n1, n2, "1", x], rfl, rfl, fun y hy => ?_, rfl⟩
          have : y = "part" ∨ y = n0 ∨ y = n1 ∨ y = n2 ∨ y = "1" ∨ y = x := by simpa using hy
          rcases this with rfl | rfl | rfl | rfl | rfl | rfl <;> omega
      refine ⟨_, _, rfl, rfl, q, _, _, j, rfl, rfl, hq10, ej, ?_⟩
      rw [eqs]
      have b12 := b10.set (o := .lst (qs.map V.str)) qp qg qc
      have t12 := t11.set (o := .lst (qs.map V.str)) Hq
      have q12 : upd G10 q (.lst (qs.map V.str)) q = some (.lst (qs.map V.str)) := upd_same
      have w12 : upd G10 q (.lst (qs.map V.str)) wl = some (.lst ((three x1 x2).map V.str)) := (upd_ne qw).trans w10
      generalize upd G10 q (.lst (qs.map V.str)) = G12 at b12 t12 q12 w12 ⊢
      clear b10 t10 hq10 w10 t11 bq2 hq2 tq wq ej eqs z30 z31
      have s1 : (qs.map (·.length)).sum + qs.length * ((" " : Str).length) ≤ 16777216 := by
        have := join_sum lq
        rw [ql] at this ⊢
        rw [show ((" " : Str).length) = 1 from by decide +kernel]
        omega
      have lj : (Txt.join " " qs).length ≤ 100000 := by
        have := join_sum lq
        have := join_len qs
        omega
      refine ⟨⟨_, rfl⟩, _, rfl, _, q, qs, rfl, rfl, .inl (SqL.of q12), s1, rfl, fun d G13 s13 nd hs => ?_⟩
      dsimp only [tNil]
      refine formed_both hs lj fun v G14 s14 hv => ?_
      have s15 := s13.trans s14
      have b15 := b12.same s15
      have t15 := t12.trans (Bt.same s15)
      have q15 := s15 _ _ q12
      have w15 := s15 _ _ w12
      refine ⟨fun σ F => ∃ v, σ = [some (.ref p), some (.ref l), some (.ref o), some (.str x), some (.ref q), some v] ∧ F = G14 ∧ DueV G14 true (Txt.join " " qs) v, ?_, ?_⟩
      · rcases hv with ⟨us, r, hu, rfl, hr'⟩ | ⟨hn, rfl⟩
        · exact ⟨_, rfl, rfl, _, rfl, ifN (by simp) ⟨_, rfl, rfl, .inl ⟨us, r, hu, rfl, hr'⟩⟩⟩
        · exact ⟨_, rfl, rfl, _, rfl, ifY (by simp) ⟨_, rfl, rfl, .inr ⟨hn, rfl⟩⟩⟩
      · rintro σ F ⟨v', rfl, rfl, hd⟩
        refine ⟨⟨_, rfl⟩, _, rfl, _, q, qs, rfl, rfl, .inl (SqL.of q15), s1, ?_⟩
        dsimp only [tCons, tC, tNil]
        refine told_read (K := K) hd lj fun u G16 s16 mt => ?_
        refine ⟨_, rfl, mt _ _ fun G17 s17 => ⟨_, rfl, ifN rfl ?_⟩⟩
        have s18 := s16.trans s17
        exact ⟨_, _, _, rfl, b15.same s18, t15.trans (Bt.same s18), s18 _ _ w15⟩
    · subst hσ
      exact go G bG tG
end
end K4

set_option Elab.async false
set_option linter.all false
set_option maxRecDepth 100000
set_option maxHeartbeats 8000000
set_option autoImplicit false
/-! The law itself. -/
namespace K4
open PySem L2 TL
abbrev sLaw : Stmt := top 39
def spLaw (K : PySem.W.Frag) : Sp := fun vs H Q _ => ∃ (a : Addr) (ns : List Int), vs = [.ref a] ∧ SqL K H a (ns.map V.int) ∧ ns.length ≤ 1000 ∧ ∀ H', Q (.bl true) H'
structure LawFns (P : Program) (w : World) (K : PySem.W.Frag) (mg : Str → Option Value) (base : Heap) (fG fN fI fH fL fS fC fP : Addr) (dG dN dI dH dL dS dC dP : FuncData) : Prop where
  okG : FnOk P w K mg base CX0 1 fG dG ["script"] (spBag K)
  bG : Binds K dG ["script"] []
  gG : mg "_law_bag" = some (.ref fG)
  kG : PySem.W.keepIn K (.ref fG) = true
  okN : FnOk P w K mg base CX0 2 fN dN ["bag", "many"] spNames
  bN : Binds K dN ["bag", "many"] []
  gN : mg "_law_names" = some (.ref fN)
  kN : PySem.W.keepIn K (.ref fN) = true
  okI : FnOk P w K mg base CX0 7 fI dI ["bag", "names"] spInts
  bI : Binds K dI ["bag", "names"] []
  gI : mg "_law_are_integers_read" = some (.ref fI)
  kI : PySem.W.keepIn K (.ref fI) = true
  okH : ∀ b, FnOk P w K mg base CX0 3 fH dH ["bag", "names", "shapes", "is_proper"] (spThing b)
  bH : Binds K dH ["bag", "names", "shapes", "is_proper"] []
  gH : mg "_law_thing" = some (.ref fH)
  kH : PySem.W.keepIn K (.ref fH) = true
  okL : FnOk P w K mg base CX0 1 fL dL ["parts"] (spText K)
  bL : Binds K dL ["parts"] []
  gL : mg "_law_line" = some (.ref fL)
  kL : PySem.W.keepIn K (.ref fL) = true
  okS : FnOk P w K mg base CX0 2 fS dS ["step"] (spText K)
  bS : KBn K dS ["step"] 0 ["step"] (fun _ ws => ws) (fun _ zs => zs)
  gS : mg "step_text" = some (.ref fS)
  kS : PySem.W.keepIn K (.ref fS) = true
  okC : FnOk P w K mg base CX0 2 fC dC ["claim"] (spText K)
  bC : KBn K dC ["claim"] 0 ["claim"] (fun _ ws => ws) (fun _ zs => zs)
  gC : mg "claim_text" = some (.ref fC)
  kC : PySem.W.keepIn K (.ref fC) = true
  okP : FnOk P w K mg base CX0 2 fP dP ["bag", "text"] spSpoilt
  bP : Binds K dP ["bag", "text"] []
  gP : mg "_law_spoilt" = some (.ref fP)
  kP : PySem.W.keepIn K (.ref fP) = true
theorem fn_ex {P : Program} {w : World} {K : PySem.W.Frag} {mg : Str → Option Value} {base : Heap} {CX : CXT} {k : Nat} {f : Addr} {fd : FuncData} {ps : List Str} {sp : Bool → Sp} (h : ∀ b, FnOk P w K mg base CX k f fd ps (sp b)) : FnOk P w K mg base CX k f fd ps (fun vs H Q E => ∃ b, sp b vs H Q E) :=
  ⟨fun vs H Q E ⟨b, q⟩ => (h b).len vs H Q E q, fun A outer s H args us vs Q E hr e0 hb r ⟨b, q⟩ => (h b).run A outer s H args us vs Q E hr e0 hb r q⟩
/-- a thing that was drawn, with its table of forms -/
structure Cur (Hn G : Hp) (p g c d t : Addr) (b : Bool) (z : Str) (ms : List Str) (is : List Int) : Prop where
  bag : BagL G p g c
  bt : Bt p g Hn G
  sh : ShapesAt G b d
  th : G t = some (.tup (vals z ms is))
  ok : Thing b z ms is
theorem Cur.step {Hn G G' : Hp} {p g c d t : Addr} {b : Bool} {z : Str} {ms : List Str} {is : List Int} (h : Cur Hn G p g c d t b z ms is) (hb : BagL G' p g c) (s : Bt p g G G') : Cur Hn G' p g c d t b z ms is := by
  obtain ⟨n1, n2, _⟩ := h.bag.ne_tup h.th
  exact ⟨hb, h.bt.trans s, h.sh.bt h.bag s, s _ _ n1 n2 h.th, h.ok⟩
theorem Cur.same {Hn G G' : Hp} {p g c d t : Addr} {b : Bool} {z : Str} {ms : List Str} {is : List Int} (h : Cur Hn G p g c d t b z ms is) (s : Same G G') : Cur Hn G' p g c d t b z ms is := h.step (h.bag.same s) (Bt.same s)
abbrev NL : List Str := ["script", "bag", "names", "turn", "is_step", "shapes", "thing", "text", "way", "other", "kind", "due", "odd"]
section
variable {P : Program} {w : World} {K : PySem.W.Frag} {mg : Str → Option Value} {base : Heap} {fD fF fA fB fT fM fG fN fI fH fL fS fC fP : Addr} {dD dF dA dB dT dM dG dN dI dH dL dS dC dP : FuncData}
theorem scLaw : FnScope NL ["script"] (defScope sLaw) := ⟨rfl, rfl, rfl, by decide +kernel, rfl, by decide +kernel, by decide +kernel⟩
theorem kw0 {X : Cx} {E : L2.St → XK} : ∀ (pins : List (Addr × Obj)) (σ : L2.St) (H : Hp) (s : Shared) (e : Value) (s' : Shared), Inv X pins σ H s → CX0 X.stack H s (E σ) e s' → X.xe e s' := fun _ _ _ _ _ _ _ h => h.elim
theorem ok_law {f : Addr} {fd : FuncData} (F : Fun K "law" "law" sLaw f fd) (T : LawTxt mg) (U : DrawTxt P w K mg base fD dD) (J : JudgeTxt P w K mg base fF fA fB fT fM dF dA dB dT dM) (M : LawFns P w K mg base fG fN fI fH fL fS fC fP dG dN dI dH dL dS dC dP) :
    FnOk P w K mg base CX0 8 f fd ["script"] (spLaw K) := by
  refine F.ok scLaw (fun vs H Q E h => ?_) (fun cdv A outer s H vs Q E hr h => ?_)
  · obtain ⟨a, ns, rfl, _⟩ := h
    rfl
  · obtain ⟨a, ns, rfl, hS, hl, go⟩ := h
    have h1 : Room 1 _ := hr.mono (by decide)
    have h2 : Room 2 _ := hr.mono (by decide)
    have h3 : Room 3 _ := hr.mono (by decide)
    have h6 : Room 6 _ := hr.mono (by decide)
    refine ⟨_, (pss_cons (ps_set (i := 1) scLaw.nd rfl (Or.inl rfl) (pe_call M.okG h1 rfl M.gG M.kG M.bG .nil pass0 (pa_cons (pv 0) pa_nil)))
      (pss_cons (ps_set (i := 2) scLaw.nd rfl (Or.inl rfl) (pe_call M.okN h2 rfl M.gN M.kN M.bN .nil pass0 (pa_cons (pv 1) (pa_cons pe_int pa_nil))))
      (pss_cons (ps_if (pt_not (pt_val (pe_call M.okI hr rfl M.gI M.kI M.bI .nil pass0 (pa_cons (pv 1) (pa_cons (pv 2) pa_nil))))) (pss_one (ps_ret pe_bl)) pss_nil)
      (pss_cons (ps_for PassesOwn.never rfl (pi_range1 (by rfl) T.range (pa_cons pe_int pa_nil)) (pg_name (i := 3) scLaw.nd rfl (Or.inl rfl)) (pss_cons (ps_set (i := 4) scLaw.nd rfl (Or.inl rfl) (pe_cmpR op_eq (pe_call U.ok h1 rfl U.g U.k U.b .nil pass0 (pa_cons (pv 1) (pa_cons pe_int pa_nil))) pe_int (nomark _)))
      (pss_cons (ps_set (i := 5) scLaw.nd rfl (Or.inl rfl) (pe_ix ix_list (pe_lst (pa_cons (pe_call0 J.okB h1 rfl J.gB J.kB J.bB .nil pass0) (pa_cons (pe_call0 J.okA h1 rfl J.gA J.kA J.bA .nil pass0) pa_nil))) (pe_callTy call_i1 (by rfl) T.int (by decide +kernel) (pa_cons (pv 4) pa_nil)) (fun _ _ => rfl)))
      (pss_cons (ps_set (i := 6) scLaw.nd rfl (Or.inl rfl) (pe_call (fn_ex M.okH) h3 rfl M.gH M.kH M.bH .nil pass0 (pa_cons (pv 1) (pa_cons (pv 2) (pa_cons (pv 5) (pa_cons pe_bl pa_nil))))))
      (pss_cons (ps_set (i := 7) scLaw.nd rfl (Or.inl rfl) (pe_call M.okL h1 rfl M.gL M.kL M.bL .nil pass0 (pa_cons (pv 6) pa_nil)))
      (C8.pss_cut (ps_if (PW.pt (pw_and (pt_val (pv 4)) (pw_and1 (pt_not (pt_val (pe_call J.okM h2 rfl J.gM J.kM J.bM .nil pass0 (pa_cons (pe_kw (E := fun _ => E0) (ks := ["step"]) M.okS h2 rfl M.gS M.kS M.bS kw0 (pk_cons (pv 6) pk_nil)) (pa_cons (pv 7) pa_nil)))))))) (pss_one (ps_ret pe_bl)) pss_nil)
      (C8.pss_cut (ps_if (PW.pt (pw_and (pt_not (pt_val (pv 4))) (pw_and1 (pt_not (pt_val (pe_call J.okM h2 rfl J.gM J.kM J.bM .nil pass0 (pa_cons (pe_kw (E := fun _ => E0) (ks := ["claim"]) M.okC h2 rfl M.gC M.kC M.bC kw0 (pk_cons (pv 6) pk_nil)) (pa_cons (pv 7) pa_nil)))))))) (pss_one (ps_ret pe_bl)) pss_nil)
      (C8.pss_cut (ps_if (pt_cmpR op_eq (pe_call U.ok h1 rfl U.g U.k U.b .nil pass0 (pa_cons (pv 1) (pa_cons pe_int pa_nil))) pe_int (nomark _)) (pss_cons (ps_set (i := 6) scLaw.nd rfl (Or.inl rfl) (pe_call (fn_ex M.okH) h3 rfl M.gH M.kH M.bH .nil pass0 (pa_cons (pv 1) (pa_cons (pv 2) (pa_cons (pv 5) (pa_cons pe_bl pa_nil))))))
      (pss_one (ps_set (i := 7) scLaw.nd rfl (Or.inl rfl) (pe_call M.okL h1 rfl M.gL M.kL M.bL .nil pass0 (pa_cons (pv 6) pa_nil))))) pss_nil)
      (C8.pss_cut (ps_if (PW.pt (pw_or (pt_not (pt_val (pe_call J.okM h2 rfl J.gM J.kM J.bM .nil pass0 (pa_cons (pe_call J.okT h6 rfl J.gT J.kT J.bT .nil pass0 (pa_cons (pv 7) (pa_cons (pv 4) pa_nil))) (pa_cons (pv 6) pa_nil))))) (pw_or1 (pt_not (pt_val (pe_call J.okM h2 rfl J.gM J.kM J.bM .nil pass0 (pa_cons (pe_call J.okT h6 rfl J.gT J.kT J.bT .nil pass0 (pa_cons (pv 7) (pa_cons (pe_not (pv 4)) pa_nil))) (pa_cons pe_str pa_nil)))))))) (pss_one (ps_ret pe_bl)) pss_nil)
      (pss_cons (ps_for PassesOwn.never rfl (pi_range1 (by rfl) T.range (pa_cons pe_int pa_nil)) (pg_name (i := 8) scLaw.nd rfl (Or.inl rfl)) (pss_cons (ps_set (i := 9) scLaw.nd rfl (Or.inl rfl) (pe_call M.okP h2 rfl M.gP M.kP M.bP .nil pass0 (pa_cons (pv 1) (pa_cons (pv 7) pa_nil))))
      (pss_one (ps_for PassesOwn.never rfl (pi_list (pe_lst (pa_cons pe_bl (pa_cons pe_bl pa_nil)))) (pg_name (i := 10) scLaw.nd rfl (Or.inl rfl)) (pss_cons (ps_set (i := 11) scLaw.nd rfl (Or.inl rfl) (pe_call (fn_ex J.okF) h2 rfl J.gF J.kF J.bF .nil pass0 (pa_cons (pv 9) (pa_cons (pe_ix ix_list (pe_lst (pa_cons (pe_call0 J.okB h1 rfl J.gB J.kB J.bB .nil pass0) (pa_cons (pe_call0 J.okA h1 rfl J.gA J.kA J.bA .nil pass0) pa_nil))) (pe_callTy call_i1 (by rfl) T.int (by decide +kernel) (pa_cons (pv 10) pa_nil)) (fun _ _ => rfl)) pa_nil))))
      (C8.pss_cut (ps_if (pt_cmpR op_isN (pv 11) pe_non (nomark _)) (pss_one (ps_set (i := 11) scLaw.nd rfl (Or.inl rfl) pe_str)) pss_nil)
      (pss_one (ps_if (pt_not (pt_val (pe_call J.okM h2 rfl J.gM J.kM J.bM .nil pass0 (pa_cons (pe_call J.okT h6 rfl J.gT J.kT J.bT .nil pass0 (pa_cons (pv 9) (pa_cons (pv 10) pa_nil))) (pa_cons (pv 11) pa_nil))))) (pss_one (ps_ret pe_bl)) pss_nil))))))))
      (pss_cons (ps_set (i := 12) scLaw.nd rfl (Or.inl rfl) (pe_ix ix_list (pe_lst (pa_cons pe_non (pa_cons pe_int (pa_cons (pv 6) (pa_cons (pe_tup (pa_cons (pv 7) pa_nil)) (pa_cons pe_bl (pa_cons (pe_lst (pa_cons (pv 7) pa_nil)) pa_nil))))))) (pe_call U.ok h1 rfl U.g U.k U.b .nil pass0 (pa_cons (pv 1) (pa_cons pe_int pa_nil))) (fun _ _ => rfl)))
      (pss_one (ps_if (pt_not (pt_val (pe_call J.okM h2 rfl J.gM J.kM J.bM .nil pass0 (pa_cons (pe_call J.okT h6 rfl J.gT J.kT J.bT .nil pass0 (pa_cons (pv 12) (pa_cons (pe_cmpR op_eq (pe_call U.ok h1 rfl U.g U.k U.b .nil pass0 (pa_cons (pv 1) (pa_cons pe_int pa_nil))) pe_int (nomark _)) pa_nil))) (pa_cons pe_str pa_nil))))) (pss_one (ps_ret pe_bl)) pss_nil)))))))))))))
      (pss_one (ps_ret pe_bl)))))), ?_⟩
    refine ⟨_, rfl, a, ns, rfl, hS, hl, fun p g c G1 s1 b1 => ?_⟩
    refine ⟨_, rfl, p, g, c, rfl, b1, fun l nms G2 b2 t2 nl hl2 ln nn => ?_⟩
    obtain ⟨lp, lg, _⟩ := b2.ne_strs hl2 (by intro e; rw [e] at ln; cases ln)
    refine ⟨_, rfl, _, rfl, p, g, c, l, nms, rfl, b2, hl2, ln, nn, fun G3 b3 t3 => ⟨_, rfl, ifN rfl ?_⟩⟩
    have hl3 := t3 _ _ lp lg hl2
    clear s1 b1 t2 nl hl2 b2 t3 hS hl G1 G2
    refine ⟨6, rfl, by decide, by decide, for_range (lo := 0) (n := 6) (fun i σ G => ∃ u3 u4 u5 u6 u7 u8 u9 u10 u11 u12 : Option V, σ = [some (.ref a), some (.ref p), some (.ref l), u3, u4, u5, u6, u7, u8, u9, u10, u11, u12] ∧ BagL G p g c ∧ Bt p g G3 G)
      ⟨_, _, _, _, _, _, _, _, _, _, rfl, b3, Bt.refl⟩ (fun i σ G hi ⟨u3, u4, u5, u6, u7, u8, u9, u10, u11, u12, hσ, bG, tG⟩ => ?_) (fun σ G ⟨u3, u4, u5, u6, u7, u8, u9, u10, u11, u12, hσ, bG, tG⟩ => ?_)⟩
    · subst hσ
      refine ⟨_, rfl, p, g, c, 2, rfl, bG, by decide, by decide, fun z1 G4 z10 z11 b4 t4 => ⟨rfl, ?_⟩⟩
      generalize decide (V.int z1 = V.int 0) = b
      have t5 := tG.trans t4
      clear bG tG z10 z11 t4
      -- shapes
      refine ⟨rfl, fun d0 G5 s5 nd0 hs0 => ⟨rfl, fun d1 G6 s6 nd1 hs1 => ⟨by show 2 ≤ sizeLine; decide, fun q nq => ?_⟩⟩⟩
      have s7 : Same G4 (upd G6 q (.lst [.ref d0, .ref d1])) := (s5.trans s6).trans (same_new nq)
      have hq : upd G6 q (.lst [.ref d0, .ref d1]) q = some (.lst [.ref d0, .ref d1]) := upd_same
      have hs0' := (hs0.up s6).up (same_new (o := .lst [.ref d0, .ref d1]) nq)
      have hs1' := hs1.up (same_new (o := .lst [.ref d0, .ref d1]) nq)
      generalize upd G6 q (.lst [.ref d0, .ref d1]) = G7 at s7 hq hs0' hs1' ⊢
      clear hs0 hs1 nd0 nd1 nq s5 s6
      have b7 := b4.same s7
      have t7 := t5.trans (Bt.same s7)
      obtain ⟨d, hd, hat⟩ : ∃ d, ShapesAt G7 b d ∧ atI [V.ref d0, .ref d1] (if b = true then 1 else 0) = some (V.ref d) := by
        cases b with
        | true => exact ⟨d1, hs1', rfl⟩
        | false => exact ⟨d0, hs0', rfl⟩
      refine ⟨_, rfl, .inr ⟨_, rfl, q, _, _, _, rfl, rfl, SqL.of hq, hat, ?_⟩⟩
      clear hs0' hs1' hat hq s7 b4 t5
      -- the first thing, its text
      have hl7 := t7 _ _ lp lg hl3
      refine ⟨_, rfl, _, rfl, _, rfl, b, p, g, c, l, d, true, nms, rfl, b7, hl7, ln, nn, hd, fun t z ms is G8 b8 t8 nt ht ok => ?_⟩
      have C8' : Cur G3 G8 p g c d t b z ms is := ⟨b8, t7.trans t8, hd.bt b7 t8, ht, ok⟩
      clear b8 t8 nt ht b7 t7 hl7 hd
      have size := ok.size
      refine ⟨_, rfl, t, _, _, rfl, SqT.of C8'.th, ok.shows, by omega, by omega, fun G9 s9 => ?_⟩
      have C9 := C8'.same s9
      clear C8' s9
      refine ⟨fun σ G => σ = [some (.ref a), some (.ref p), some (.ref l), some (.int (0 + i)), some (.bl b), some (.ref d), some (.ref t), some (.str (Txt.join " " (words z ms is))), u8, u9, u10, u11, u12] ∧ Cur G3 G p g c d t b z ms is, ?_, ?_⟩
      · refine ⟨_, rfl, b, rfl, ?_⟩
        cases b with
        | false => exact ifN rfl ⟨rfl, C9⟩
        | true =>
          refine ifY rfl ⟨_, rfl, rfl, t, _, _, rfl, SqT.of C9.th, ok.shows, by omega, by omega, fun G10 s10 => ?_⟩
          refine ⟨_, rfl, _, _, rfl, .inl ⟨rfl, .str _⟩, fun G11 s11 => ⟨_, rfl, ifN rfl ⟨rfl, C9.same (s10.trans s11)⟩⟩⟩
      rintro σ G10 ⟨rfl, C10⟩
      clear C9
      refine ⟨fun σ G => σ = [some (.ref a), some (.ref p), some (.ref l), some (.int (0 + i)), some (.bl b), some (.ref d), some (.ref t), some (.str (Txt.join " " (words z ms is))), u8, u9, u10, u11, u12] ∧ Cur G3 G p g c d t b z ms is, ?_, ?_⟩
      · refine ⟨_, rfl, b, rfl, ?_⟩
        cases b with
        | true => exact ifN rfl ⟨rfl, C10⟩
        | false =>
          refine ifY rfl ⟨_, rfl, rfl, t, _, _, rfl, SqT.of C10.th, ok.shows, by omega, by omega, fun G11 s11 => ?_⟩
          refine ⟨_, rfl, _, _, rfl, .inl ⟨rfl, .str _⟩, fun G12 s12 => ⟨_, rfl, ifN rfl ⟨rfl, C10.same (s11.trans s12)⟩⟩⟩
      rintro σ G11 ⟨rfl, C11⟩
      clear C10 size
      refine ⟨fun σ G => ∃ t z ms is, σ = [some (.ref a), some (.ref p), some (.ref l), some (.int (0 + i)), some (.bl b), some (.ref d), some (.ref t), some (.str (Txt.join " " (words z ms is))), u8, u9, u10, u11, u12] ∧ Cur G3 G p g c d t b z ms is, ?_, ?_⟩
      · refine ⟨_, rfl, p, g, c, 2, rfl, C11.bag, by decide, by decide, fun z2 G12 z20 z21 b12 t12 => ⟨rfl, _, rfl, ?_⟩⟩
        have C12 := C11.step b12 t12
        refine ite2 (fun _ => ?_) (fun _ => ⟨t, z, ms, is, rfl, C12⟩)
        refine ⟨_, rfl, _, rfl, _, rfl, b, p, g, c, l, d, false, nms, rfl, b12, C12.bt _ _ lp lg hl3, ln, nn, C12.sh, fun t' z' ms' is' G13 b13 t13 nt ht ok' => ?_⟩
        have C13 : Cur G3 G13 p g c d t' b z' ms' is' := ⟨b13, C12.bt.trans t13, C12.sh.bt b12 t13, ht, ok'⟩
        have size := ok'.size
        exact ⟨_, rfl, t', _, _, rfl, SqT.of C13.th, ok'.shows, by omega, by omega, fun G14 s14 => ⟨t', z', ms', is', rfl, C13.same s14⟩⟩
      clear C11 ok
      rintro σ G12 ⟨t, z, ms, is, rfl, C12⟩
      have ok := C12.ok
      have ly : (Txt.join " " (words z ms is)).length ≤ 126 := ok.len
      -- the text is read back, and is no other's
      refine ⟨fun σ G => σ = [some (.ref a), some (.ref p), some (.ref l), some (.int (0 + i)), some (.bl b), some (.ref d), some (.ref t), some (.str (Txt.join " " (words z ms is))), u8, u9, u10, u11, u12] ∧ Cur G3 G p g c d t b z ms is, ?_, ?_⟩
      · refine ⟨_, rfl, _, rfl, ?_⟩
        dsimp only [tNil]
        refine told_read (K := K) (.inl ⟨_, t, ok.due, rfl, C12.th⟩) (by omega) fun u G13 s13 mt => ?_
        refine ⟨_, rfl, ?_⟩
        dsimp only [tNil]
        refine mt _ _ fun G14 s14 => ⟨_, rfl, ifN rfl ?_⟩
        refine ⟨_, rfl, _, rfl, _, rfl, ?_⟩
        dsimp only [tNil]
        refine told_read (K := K) (v := .str "bad") (.inr ⟨ok.other, rfl⟩) (by omega) fun u' G15 s15 mt' => ?_
        show tCons (tC (.str "bad")) tNil _ _ _
        unfold tCons tC tNil
        exact mt' _ _ fun G16 s16 => ⟨_, rfl, ifN rfl ⟨rfl, C12.same (((s13.trans s14).trans s15).trans s16)⟩⟩
      rintro σ G13 ⟨rfl, C13⟩
      clear C12
      refine ⟨3, rfl, by decide, by decide, for_range (lo := 0) (n := 3) (fun j σ G => ∃ u8 u9 u10 u11 : Option V, σ = [some (.ref a), some (.ref p), some (.ref l), some (.int (0 + i)), some (.bl b), some (.ref d), some (.ref t), some (.str (Txt.join " " (words z ms is))), u8, u9, u10, u11, u12] ∧ Cur G3 G p g c d t b z ms is)
        ⟨_, _, _, _, rfl, C13⟩ (fun j σ G hj ⟨u8, u9, u10, u11, hσ, CG⟩ => ?_) (fun σ G ⟨u8, u9, u10, u11, hσ, CG⟩ => ?_)⟩
      · subst hσ
        refine ⟨_, rfl, _, rfl, p, g, c, _, rfl, CG.bag, by omega, fun o G14 b14 t14 lo => ?_⟩
        have C14 := CG.step b14 t14
        refine ⟨by show 2 ≤ sizeLine; decide, fun k nk => ?_⟩
        have C15 := C14.same (same_new (o := .lst [.bl true, .bl false]) nk)
        have hk : upd G14 k (.lst [.bl true, .bl false]) k = some (.lst [.bl true, .bl false]) := upd_same
        obtain ⟨kp, kg, _⟩ := b14.ne nk
        refine ⟨k, rfl, ⟨_, SqL.of hk⟩, for_list (K := K) (a := k) (xs := [.bl true, .bl false]) (fun m σ G => ∃ u10 u11 : Option V, σ = [some (.ref a), some (.ref p), some (.ref l), some (.int (0 + i)), some (.bl b), some (.ref d), some (.ref t), some (.str (Txt.join " " (words z ms is))), some (.int (0 + j)), some (.str o), u10, u11, u12] ∧ Cur G3 G p g c d t b z ms is ∧ G k = some (.lst [.bl true, .bl false]))
          ⟨_, _, rfl, C15, hk⟩ (fun m σ G _ ⟨_, _, _, _, h⟩ => SqL.of h) (fun m v σ G hm ⟨u10, u11, hσ, CG, kG⟩ => ?_) (fun σ G ⟨u10, u11, hσ, CG, kG⟩ => ⟨_, _, _, _, hσ, CG⟩)⟩
        subst hσ
        obtain ⟨kb, rfl⟩ : ∃ kb, v = V.bl kb := by
          have : m = 0 ∨ m = 1 := by
            have := (List.getElem?_eq_some_iff.mp hm).1
            simp at this
            omega
          rcases this with rfl | rfl
          · exact ⟨true, (Option.some.inj hm).symm⟩
          · exact ⟨false, (Option.some.inj hm).symm⟩
        refine ⟨_, rfl, rfl, fun d0 G5 s5 nd0 hs0 => ⟨rfl, fun d1 G6 s6 nd1 hs1 => ⟨by show 2 ≤ sizeLine; decide, fun q nq => ?_⟩⟩⟩
        have s7 : Same G (upd G6 q (.lst [.ref d0, .ref d1])) := (s5.trans s6).trans (same_new nq)
        have hq : upd G6 q (.lst [.ref d0, .ref d1]) q = some (.lst [.ref d0, .ref d1]) := upd_same
        have hs0' := (hs0.up s6).up (same_new (o := .lst [.ref d0, .ref d1]) nq)
        have hs1' := hs1.up (same_new (o := .lst [.ref d0, .ref d1]) nq)
        generalize upd G6 q (.lst [.ref d0, .ref d1]) = G7 at s7 hq hs0' hs1' ⊢
        clear hs0 hs1 nd0 nd1 nq s5 s6
        obtain ⟨dd, hd, hat⟩ : ∃ dd, ShapesAt G7 kb dd ∧ atI [V.ref d0, .ref d1] (if kb = true then 1 else 0) = some (V.ref dd) := by
          cases kb with
          | true => exact ⟨d1, hs1', rfl⟩
          | false => exact ⟨d0, hs0', rfl⟩
        refine ⟨_, rfl, .inr ⟨_, rfl, q, _, _, _, rfl, rfl, SqL.of hq, hat, kb, ?_⟩⟩
        clear hs0' hs1' hat hq
        dsimp only [tNil]
        refine formed_both hd (by omega) fun v G8 s8 hv => ?_
        have C8' := CG.same (s7.trans s8)
        have k8 := (s7.trans s8) _ _ kG
        refine ⟨fun σ F => ∃ v, σ = [some (.ref a), some (.ref p), some (.ref l), some (.int (0 + i)), some (.bl b), some (.ref d), some (.ref t), some (.str (Txt.join " " (words z ms is))), some (.int (0 + j)), some (.str o), some (.bl kb), some v, u12] ∧ F = G8 ∧ DueV G8 kb o v, ?_, ?_⟩
        · rcases hv with ⟨us, r, hu, rfl, hr'⟩ | ⟨hn, rfl⟩
          · exact ⟨_, rfl, rfl, _, rfl, ifN (by simp) ⟨_, rfl, rfl, .inl ⟨us, r, hu, rfl, hr'⟩⟩⟩
          · exact ⟨_, rfl, rfl, _, rfl, ifY (by simp) ⟨_, rfl, rfl, .inr ⟨hn, rfl⟩⟩⟩
        · rintro σ F ⟨v', rfl, rfl, hdv⟩
          refine ⟨_, rfl, _, rfl, ?_⟩
          dsimp only [tNil]
          refine told_read (K := K) hdv (by omega) fun u G9 s9 mt => ?_
          refine ⟨_, rfl, ?_⟩
          dsimp only [tNil]
          refine mt _ _ fun G10 s10 => ⟨_, rfl, ifN rfl ?_⟩
          exact ⟨_, _, rfl, C8'.same (s9.trans s10), (s9.trans s10) _ _ k8⟩
      · subst hσ
        clear C13
        -- what is no text
        refine ⟨_, rfl, _, rfl, by show 1 ≤ sizeLine; decide, fun q1 n1 => ?_⟩
        refine ⟨_, rfl, by show 1 ≤ sizeLine; decide, fun q2 n2 => ⟨by show 6 ≤ sizeLine; decide, fun q3 n3 => ?_⟩⟩
        have q12 : q1 ≠ q2 := fun z => by rw [z] at n2; rw [upd_same] at n2; cases n2
        have q13 : q1 ≠ q3 := fun z => by rw [z] at n3; rw [upd_ne (by rw [← z]; exact q12), upd_same] at n3; cases n3
        have q23 : q2 ≠ q3 := fun z => by rw [z] at n3; rw [upd_same] at n3; cases n3
        have bq := ((CG.bag.up (o := .tup [.str (Txt.join " " (words z ms is))]) n1).up (o := .lst [.str (Txt.join " " (words z ms is))]) n2)
        obtain ⟨q1p, q1g, _⟩ := CG.bag.ne n1
        obtain ⟨q2p, q2g, _⟩ := (CG.bag.up (o := .tup [.str (Txt.join " " (words z ms is))]) n1).ne n2
        obtain ⟨q3p, q3g, _⟩ := bq.ne n3
        have C4 := ((CG.same (same_new (o := .tup [.str (Txt.join " " (words z ms is))]) n1)).same (same_new (o := .lst [.str (Txt.join " " (words z ms is))]) n2)).same (same_new (o := .lst [.non, .int 7, .ref t, .ref q1, .bl true, .ref q2]) n3)
        have e1 : upd (upd (upd G q1 (.tup [.str (Txt.join " " (words z ms is))])) q2 (.lst [.str (Txt.join " " (words z ms is))])) q3 (.lst [.non, .int 7, .ref t, .ref q1, .bl true, .ref q2]) q1 = some (.tup [.str (Txt.join " " (words z ms is))]) := (upd_ne q13).trans ((upd_ne q12).trans upd_same)
        have e2 : upd (upd (upd G q1 (.tup [.str (Txt.join " " (words z ms is))])) q2 (.lst [.str (Txt.join " " (words z ms is))])) q3 (.lst [.non, .int 7, .ref t, .ref q1, .bl true, .ref q2]) q2 = some (.lst [.str (Txt.join " " (words z ms is))]) := (upd_ne q23).trans upd_same
        have e3 : upd (upd (upd G q1 (.tup [.str (Txt.join " " (words z ms is))])) q2 (.lst [.str (Txt.join " " (words z ms is))])) q3 (.lst [.non, .int 7, .ref t, .ref q1, .bl true, .ref q2]) q3 = some (.lst [.non, .int 7, .ref t, .ref q1, .bl true, .ref q2]) := upd_same
        refine ⟨_, rfl, p, g, c, 6, rfl, C4.bag, by decide, by decide, fun z3 G5 z30 z31 b5 t5 => ?_⟩
        have C5 := C4.step b5 t5
        have f1 := t5 _ _ q1p q1g e1
        have f2 := t5 _ _ q2p q2g e2
        have f3 := t5 _ _ q3p q3g e3
        clear C4 e1 e2 e3 t5 bq n1 n2 n3 q12 q13 q23
        obtain ⟨v, hv, nv⟩ : ∃ v, atI [V.non, .int 7, .ref t, .ref q1, .bl true, .ref q2] z3 = some v ∧ ∀ G', BagL G' p g c → Bt p g G5 G' → NotStr K G' v := by
          have fl2 : q2 ≠ p ∧ q2 ≠ g := ⟨q2p, q2g⟩
          have ft := C5.bag.ne_tup C5.th
          obtain ⟨j, rfl⟩ := Int.eq_ofNat_of_zero_le z30
          have : j = 0 ∨ j = 1 ∨ j = 2 ∨ j = 3 ∨ j = 4 ∨ j = 5 := by omega
          rcases this with rfl | rfl | rfl | rfl | rfl | rfl
          · exact ⟨_, atI_nat rfl, fun G' _ _ => ⟨_, .non, by decide +kernel⟩⟩
          · exact ⟨_, atI_nat rfl, fun G' _ _ => ⟨_, .int 7, by decide +kernel⟩⟩
          · exact ⟨_, atI_nat rfl, fun G' _ s' => ⟨_, .tup (s' _ _ ft.1 ft.2.1 C5.th), by decide +kernel⟩⟩
          · exact ⟨_, atI_nat rfl, fun G' _ s' => ⟨_, .tup (s' _ _ q1p q1g f1), by decide +kernel⟩⟩
          · exact ⟨_, atI_nat rfl, fun G' _ _ => ⟨_, .bl true, by decide +kernel⟩⟩
          · exact ⟨_, atI_nat rfl, fun G' _ s' => ⟨_, .lst (s' _ _ q2p q2g f2), by decide +kernel⟩⟩
        refine ⟨q3, _, _, _, rfl, rfl, SqL.of f3, hv, ?_⟩
        refine ⟨_, rfl, _, rfl, p, g, c, 2, rfl, b5, by decide, by decide, fun z4 G6 z40 z41 b6 t6 => ⟨rfl, ?_⟩⟩
        refine ⟨_, _, rfl, .inr ⟨nv G6 b6 t6, fun G7 s7 => ?_⟩⟩
        refine ⟨_, _, rfl, .inl ⟨rfl, .str _⟩, fun G8 s8 => ⟨_, rfl, ifN rfl ?_⟩⟩
        have C8' := (C5.step b6 t6).same (s7.trans s8)
        exact ⟨_, _, _, _, _, _, _, _, _, _, rfl, C8'.bag, C8'.bt⟩
    · subst hσ
      exact go _
end
end K4

set_option Elab.async false
set_option linter.all false
set_option maxRecDepth 100000
set_option maxHeartbeats 8000000
/-! What the top has written; the end. -/
namespace K4
open PySem L2 TL
/-- an own error class over the base at B, at C -/
structure ClsFacts (K : PySem.W.Frag) (B C f : Addr) (x fld : Str) : Prop where
  gC : PySem.W.nsIn K mainGlobals x = some (some (.ref C))
  xL : ∃ nm q N bs sn sub ab col dd k0 k1 k2 k3 k5, K.lookup C = some (excClassObj nm q C N bs [.ref B, .type "Exception", .type "BaseException", .type "object"] true sn sub ab col dd k0 k1 k2 k3 k5 "Exception.__new__")
  sa : PySem.W.findIn K (.ref C) "__setattr__" = some (some (.builtin "object.__setattr__"))
  ga : PySem.W.findIn K (.ref C) "__getattribute__" = some (some (.builtin "BaseException.__getattribute__"))
  gg : PySem.W.findIn K (.ref C) "__getattr__" = some none
  nb : PySem.W.findIn K (.ref C) fld = some none
  cc : PySem.W.findIn K (.ref C) "__class__" = some (some (.builtin "object.__class__"))
  iC : PySem.W.findIn K (.ref C) "__init__" = some (some (.ref f))
  tI : PySem.W.typeIn K (.ref f) = some (.type "function")
  kC : PySem.W.keepIn K (.ref C) = true
  tC : PySem.W.typeIn K (.ref C) = some (.type "type")
section
variable {K : PySem.W.Frag} {B C f : Addr} {x fld : Str}
def line (B C : Addr) : List Value := [.ref C, .ref B, .type "Exception", .type "BaseException", .type "object"]
theorem ClsFacts.cls (T : ClsFacts K B C f x fld) : ∃ cd, PySem.W.clsIn K C = some cd ∧ cd.mro = line B C ∧ cd.hasDict = true := by
  obtain ⟨nm, q, N, bs, sn, sub, ab, col, dd, k0, k1, k2, k3, k5, h⟩ := T.xL
  refine ⟨{ name := nm, bases := bs, mro := line B C, ns := N, qualname := q, hasDict := true, slotNames := sn, subclasses := sub, abstract := ab, collection := col, hasDel := false }, ?_, rfl, rfl⟩
  unfold PySem.W.clsIn
  rw [h]
  rfl
theorem ClsFacts.sub (T : ClsFacts K B C f x fld) (v : Value) : PySem.W.subIn K (.ref C) v = some ((line B C).contains v) := by
  obtain ⟨cd, h1, h2, _⟩ := T.cls
  show PySem.W.mroIn K C v = _
  unfold PySem.W.mroIn
  rw [h1, Option.bind_some, h2]
  rfl
theorem ClsFacts.err (T : ClsFacts K B C f x fld) : ErrC K C where
  cls := by
    obtain ⟨nm, q, N, bs, sn, sub, ab, col, dd, k0, k1, k2, k3, k5, h⟩ := T.xL
    exact ⟨nm, q, N, bs, _, sn, sub, ab, col, dd, k0, k1, k2, k3, k5, h, [B], rfl⟩
  sa := T.sa
  exC := (T.sub _).trans (by rfl)
  tyC := T.tC
  kC := T.kC
theorem ClsFacts.has (T : ClsFacts K B C f x fld) : PySem.W.hasDictIn K C = true := by
  obtain ⟨cd, h1, _, h3⟩ := T.cls
  unfold PySem.W.hasDictIn
  rw [h1]
  exact h3
theorem ClsFacts.xf (T : ClsFacts K B C f x fld) : XfC K C := ⟨T.ga, T.gg, (T.sub _).trans (by rfl), T.has⟩
theorem ClsFacts.ask (T : ClsFacts K B C f x fld) (g1 : PySem.W.specialIn K (.builtin "object.__class__") "__get__" = some (some (.builtin "getset_descriptor.__get__"))) (g2 : PySem.W.takesIn K (.builtin "object.__class__") = some true) : AskC K C where
  cl := by
    obtain ⟨cd, h1, _⟩ := T.cls
    rw [h1]
    rfl
  ga := T.ga
  gg := T.gg
  exC := (T.sub _).trans (by rfl)
  cls := T.cc
  get := g1
  tak := g2
  obj := (T.sub _).trans (by rfl)
theorem ref_bne {a b : Addr} (h : a ≠ b) : (Value.ref a == Value.ref b) = false := by simp [h]
theorem kit_of_cls {D : Addr} {b : Bool} (h1 : (PySem.W.clsIn K D).isSome = true) (h2 : PySem.W.typeIn K (.ref D) = some (.type "type")) (h3 : PySem.W.subIn K (.ref C) (.ref D) = some b) (h4 : C = D → b = true) : PySem.W.kitOne K (.ref C) (.ref D) = some b := by
  unfold PySem.W.kitOne
  by_cases e : C = D
  · subst e
    rw [if_pos (by simp), h4 rfl]
  · rw [if_neg (by simp [e])]
    show (if ((PySem.W.clsIn K D).isSome && PySem.W.typeIn K (.ref D) == some (.type "type")) = true then PySem.W.subIn K (.ref C) (.ref D) else none) = _
    rw [h1, h2, if_pos (by rfl), h3]
theorem exm_of_cls {D : Addr} {b : Bool} (h0 : PySem.W.subIn K (.ref D) (.type "BaseException") = some true) (h1 : (PySem.W.clsIn K D).isSome = true) (h2 : PySem.W.typeIn K (.ref D) = some (.type "type")) (h3 : PySem.W.subIn K (.ref C) (.ref D) = some b) : PySem.W.exmOne K (.ref C) (.ref D) = some b := by
  unfold PySem.W.exmOne
  rw [h0, if_pos (by rfl)]
  show (if ((PySem.W.clsIn K D).isSome && PySem.W.typeIn K (.ref D) == some (.type "type")) = true then PySem.W.subIn K (.ref C) (.ref D) else none) = _
  rw [h1, h2, if_pos (by rfl), h3]
theorem ClsFacts.other (T : ClsFacts K B C f x fld) {D : Addr} (hB : D ≠ B) : PySem.W.subIn K (.ref C) (.ref D) = some (decide (C = D)) := by
  rw [T.sub]
  by_cases e : C = D
  · subst e
    simp [line]
  · have e2 : ¬ D = C := fun z => e z.symm
    simp [line, e, e2, hB]
end

/-- a written table with text keys -/
inductive Ent : List DictEntry → List (Str × V) → Prop
  | nil : Ent [] []
  | cons {h : Int} {x : Str} {t : Tok} {u : Value} {v : V} {l : List DictEntry} {m : List (Str × V)} (r : RelV v u) (e : Ent l m) : Ent (⟨h, .str x t, u⟩ :: l) ((x, v) :: m)
theorem isStr_eq (x z : Str) (t : Tok) : (Value.str x t).isStr z = decide (x = z) := by
  by_cases e : x = z
  · subst e
    simp [Value.isStr]
  · simp [Value.isStr, e]
theorem Ent.plain {l : List DictEntry} {m : List (Str × V)} (h : Ent l m) : l.any (·.refKey) = false := by
  induction h with
  | nil => rfl
  | cons r _ ih => rw [List.any_cons, ih]; rfl
theorem Ent.find {l : List DictEntry} {m : List (Str × V)} (h : Ent l m) (z : Str) : (m.find? (fun e => decide (e.1 = z)) = none ∧ l.find? (·.key.isStr z) = none) ∨ ∃ e d, m.find? (fun e => decide (e.1 = z)) = some e ∧ l.find? (·.key.isStr z) = some d ∧ RelV e.2 d.val := by
  induction h with
  | nil => exact .inl ⟨rfl, rfl⟩
  | @cons h x t u v l m r _ ih =>
    rw [List.find?_cons, List.find?_cons, isStr_eq]
    by_cases e : x = z
    · rw [decide_eq_true e]
      exact .inr ⟨_, _, rfl, rfl, r⟩
    · rw [decide_eq_false e]
      exact ih
theorem Ent.ns {K : PySem.W.Frag} {d : Addr} {es : Array DictEntry} {n : Nat} {m : List (Str × V)} (hl : K.lookup d = some ⟨.type "dict", none, .dict es n, #[]⟩) (h : Ent es.toList m) (z : Str) :
    (m.find? (fun e => decide (e.1 = z)) = none ∧ PySem.W.nsIn K d z = some none) ∨ ∃ e u, m.find? (fun e => decide (e.1 = z)) = some e ∧ PySem.W.nsIn K d z = some (some u) ∧ RelV e.2 u := by
  unfold PySem.W.nsIn
  rw [hl]
  rcases h.find z with ⟨h1, h2⟩ | ⟨e, dd, h1, h2, h3⟩
  · refine .inl ⟨h1, ?_⟩
    show (match es.toList.find? (·.key.isStr z) with
      | some e => some (some e.val)
      | none => if es.toList.any (·.refKey) then none else some none) = _
    rw [h2, h.plain]
    rfl
  · refine .inr ⟨e, dd.val, h1, ?_, h3⟩
    show (match es.toList.find? (·.key.isStr z) with
      | some e => some (some e.val)
      | none => if es.toList.any (·.refKey) then none else some none) = _
    rw [h2]
def formsL : List (Str × V) := [("free", .str ""), ("slide", .str "pp"), ("part", .str "ppnd"), ("shift", .str "ppp"), ("turn", .str "ppp"), ("over", .str "pp"), ("mirror", .str "ppp"), ("foot", .str "ppp"), ("meet", .str "pppp"), ("second", .str "ppp"), ("centre", .str "ppp")]
def pointsL : List (Str × V) := [("same", .int 2), ("on_line", .int 3), ("parallel", .int 4), ("perpendicular", .int 4), ("equal_length", .int 4), ("equal_area", .int 6), ("on_circle", .int 4), ("one_meet", .int 6)]
/-- the program's forms and the law's say the same -/
def Fits : List Sh → List (Str × V) → Prop
  | [], [] => True
  | (z, n, k) :: l, (x, v) :: m => z = x ∧ (∃ (y : Str) (r : List Nat), v = .str y ∧ tl y = List.replicate (n - 1) 112 ++ r ∧ (∀ c ∈ r, c ≠ 112) ∧ r.length = k) ∧ Fits l m
  | _, _ => False
def FitsP : List Sh → List (Str × V) → Prop
  | [], [] => True
  | (z, n, k) :: l, (x, v) :: m => z = x ∧ v = .int n ∧ k = 0 ∧ FitsP l m
  | _, _ => False
theorem fits_forms : Fits shS formsL :=
  ⟨rfl, ⟨"", [], rfl, by decide +kernel, by simp, rfl⟩, rfl, ⟨"pp", [], rfl, by decide +kernel, by simp, rfl⟩, rfl, ⟨"ppnd", [110, 100], rfl, by decide +kernel, by simp, rfl⟩, rfl, ⟨"ppp", [], rfl, by decide +kernel, by simp, rfl⟩, rfl, ⟨"ppp", [], rfl, by decide +kernel, by simp, rfl⟩,
   rfl, ⟨"pp", [], rfl, by decide +kernel, by simp, rfl⟩, rfl, ⟨"ppp", [], rfl, by decide +kernel, by simp, rfl⟩, rfl, ⟨"ppp", [], rfl, by decide +kernel, by simp, rfl⟩, rfl, ⟨"pppp", [], rfl, by decide +kernel, by simp, rfl⟩, rfl, ⟨"ppp", [], rfl, by decide +kernel, by simp, rfl⟩, rfl, ⟨"ppp", [], rfl, by decide +kernel, by simp, rfl⟩, True.intro⟩
theorem fits_points : FitsP shC pointsL := ⟨rfl, rfl, rfl, rfl, rfl, rfl, rfl, rfl, rfl, rfl, rfl, rfl, rfl, rfl, rfl, rfl, rfl, rfl, rfl, rfl, rfl, rfl, rfl, rfl, True.intro⟩
theorem Fits.find : ∀ {l : List Sh} {m : List (Str × V)}, Fits l m → ∀ z, (shapeIn l z = none ∧ m.find? (fun e => decide (e.1 = z)) = none) ∨ ∃ n k e, shapeIn l z = some (n, k) ∧ m.find? (fun e => decide (e.1 = z)) = some e ∧ ∃ (y : Str) (r : List Nat), e.2 = .str y ∧ tl y = List.replicate (n - 1) 112 ++ r ∧ (∀ c ∈ r, c ≠ 112) ∧ r.length = k
  | [], [], _, z => .inl ⟨rfl, rfl⟩
  | (x, n, k) :: l, (x', v) :: m, ⟨ex, hv, h⟩, z => by
    subst ex
    unfold shapeIn
    rw [List.find?_cons, List.find?_cons]
    by_cases e : x = z
    · rw [decide_eq_true e]
      exact .inr ⟨n, k, (x, v), rfl, rfl, hv⟩
    · rw [decide_eq_false e]
      exact Fits.find h z
theorem FitsP.find : ∀ {l : List Sh} {m : List (Str × V)}, FitsP l m → ∀ z, (shapeIn l z = none ∧ m.find? (fun e => decide (e.1 = z)) = none) ∨ ∃ n k e, shapeIn l z = some (n, k) ∧ m.find? (fun e => decide (e.1 = z)) = some e ∧ e.2 = .int (n : Nat) ∧ k = 0
  | [], [], _, z => .inl ⟨rfl, rfl⟩
  | (x, n, k) :: l, (x', v) :: m, ⟨ex, hv, hk, h⟩, z => by
    subst ex
    unfold shapeIn
    rw [List.find?_cons, List.find?_cons]
    by_cases e : x = z
    · rw [decide_eq_true e]
      exact .inr ⟨n, k, (x, v), rfl, rfl, hv, hk⟩
    · rw [decide_eq_false e]
      exact FitsP.find h z
theorem forms_of {K : PySem.W.Frag} {d : Addr} {es : Array DictEntry} {n : Nat} (hl : K.lookup d = some ⟨.type "dict", none, .dict es n, #[]⟩) (h : Ent es.toList formsL) (z : Str) : ∃ r, PySem.W.nsIn K d z = some r ∧ FormIs (shapeOf true z) r := by
  rcases fits_forms.find z with ⟨f1, f2⟩ | ⟨n', k, e, f1, f2, y, r, f3, f4, f5, f6⟩
  · rcases h.ns hl z with ⟨_, g2⟩ | ⟨e, u, g1, _⟩
    · exact ⟨none, g2, by rw [show shapeOf true z = shapeIn shS z from rfl, f1]; exact rfl⟩
    · rw [f2] at g1; cases g1
  · rcases h.ns hl z with ⟨g1, _⟩ | ⟨e', u, g1, g2, g3⟩
    · rw [f2] at g1; cases g1
    · rw [f2] at g1
      cases g1
      rw [f3] at g3
      obtain ⟨t, rfl⟩ := g3
      exact ⟨_, g2, by rw [show shapeOf true z = shapeIn shS z from rfl, f1]; exact ⟨y, t, r, rfl, f4, f5, f6⟩⟩
theorem points_of {K : PySem.W.Frag} {d : Addr} {es : Array DictEntry} {n : Nat} (hl : K.lookup d = some ⟨.type "dict", none, .dict es n, #[]⟩) (h : Ent es.toList pointsL) (z : Str) : ∃ r, PySem.W.nsIn K d z = some r ∧ PointsIs (shapeOf false z) r := by
  rcases fits_points.find z with ⟨f1, f2⟩ | ⟨n', k, e, f1, f2, f3, f4⟩
  · rcases h.ns hl z with ⟨_, g2⟩ | ⟨e, u, g1, _⟩
    · exact ⟨none, g2, by rw [show shapeOf false z = shapeIn shC z from rfl, f1]; exact rfl⟩
    · rw [f2] at g1; cases g1
  · rcases h.ns hl z with ⟨g1, _⟩ | ⟨e', u, g1, g2, g3⟩
    · rw [f2] at g1; cases g1
    · rw [f2] at g1
      cases g1
      rw [f3] at g3
      obtain ⟨t, rfl⟩ := g3
      exact ⟨_, g2, by rw [show shapeOf false z = shapeIn shC z from rfl, f1]; exact ⟨t, rfl, f4⟩⟩
theorem all_mk {l : PySem.W.OpenLaw} {w : World} {K : PySem.W.Frag} {h : Heap} {mg : Str → Option Value} {fa B D : Addr} (X : K.In h) (G : h.Ns mainGlobals mg) (hfa : mg "law" = some (.ref fa))
    {C f0 N0 : Addr} {nm0 q0 : Str} {bs0 sub0 : List Value} {sn0 : List Str} {ab0 : Bool} {col0 : Option Bool} {dd0 od0 an0 : Option Addr} {m0a m0b m0c m0d m0e : Option Value} {oc0 kV0 dc0 pm0 cd0 ct0 : Value} {sl0 : Array (Option Value)} {tLets tFigs tFour tNine : _} {dF dP : Addr} {eF eP : Array DictEntry} {nF nP : Nat}
    {Fisname : Addr} {od_isname an_isname : Option Addr} {sl_isname : Array (Option Value)} {oc_isname kV_isname dc_isname pm_isname cd_isname ct_isname : Value}
    {Fisfig : Addr} {od_isfig an_isfig : Option Addr} {sl_isfig : Array (Option Value)} {oc_isfig kV_isfig dc_isfig pm_isfig cd_isfig ct_isfig : Value}
    {Freadint : Addr} {od_readint an_readint : Option Addr} {sl_readint : Array (Option Value)} {oc_readint kV_readint dc_readint pm_readint cd_readint ct_readint : Value}
    {Fsteptext : Addr} {od_steptext an_steptext : Option Addr} {sl_steptext : Array (Option Value)} {oc_steptext kV_steptext dc_steptext pm_steptext cd_steptext ct_steptext : Value}
    {Fclaimtext : Addr} {od_claimtext an_claimtext : Option Addr} {sl_claimtext : Array (Option Value)} {oc_claimtext kV_claimtext dc_claimtext pm_claimtext cd_claimtext ct_claimtext : Value}
    {Freadstep : Addr} {od_readstep an_readstep : Option Addr} {sl_readstep : Array (Option Value)} {oc_readstep kV_readstep dc_readstep pm_readstep cd_readstep ct_readstep : Value}
    {Freadclaim : Addr} {od_readclaim an_readclaim : Option Addr} {sl_readclaim : Array (Option Value)} {oc_readclaim kV_readclaim dc_readclaim pm_readclaim cd_readclaim ct_readclaim : Value}
    {Ftext : Addr} {od_text an_text : Option Addr} {sl_text : Array (Option Value)} {oc_text kV_text dc_text pm_text cd_text ct_text : Value}
    {Fwords : Addr} {od_words an_words : Option Addr} {sl_words : Array (Option Value)} {oc_words kV_words dc_words pm_words cd_words ct_words : Value}
    {Fread : Addr} {od_read an_read : Option Addr} {sl_read : Array (Option Value)} {oc_read kV_read dc_read pm_read cd_read ct_read : Value}
    {Freadmem : Addr} {od_readmem an_readmem : Option Addr} {sl_readmem : Array (Option Value)} {oc_readmem kV_readmem dc_readmem pm_readmem cd_readmem ct_readmem : Value}
    {Fbag : Addr} {od_bag an_bag : Option Addr} {sl_bag : Array (Option Value)} {oc_bag kV_bag dc_bag pm_bag cd_bag ct_bag : Value}
    {Fdraw : Addr} {od_draw an_draw : Option Addr} {sl_draw : Array (Option Value)} {oc_draw kV_draw dc_draw pm_draw cd_draw ct_draw : Value}
    {Fmeets : Addr} {od_meets an_meets : Option Addr} {sl_meets : Array (Option Value)} {oc_meets kV_meets dc_meets pm_meets cd_meets ct_meets : Value}
    {Fnames : Addr} {od_names an_names : Option Addr} {sl_names : Array (Option Value)} {oc_names kV_names dc_names pm_names cd_names ct_names : Value}
    {Fstepsh : Addr} {od_stepsh an_stepsh : Option Addr} {sl_stepsh : Array (Option Value)} {oc_stepsh kV_stepsh dc_stepsh pm_stepsh cd_stepsh ct_stepsh : Value}
    {Fclaimsh : Addr} {od_claimsh an_claimsh : Option Addr} {sl_claimsh : Array (Option Value)} {oc_claimsh kV_claimsh dc_claimsh pm_claimsh cd_claimsh ct_claimsh : Value}
    {Flname : Addr} {od_lname an_lname : Option Addr} {sl_lname : Array (Option Value)} {oc_lname kV_lname dc_lname pm_lname cd_lname ct_lname : Value}
    {Flint : Addr} {od_lint an_lint : Option Addr} {sl_lint : Array (Option Value)} {oc_lint kV_lint dc_lint pm_lint cd_lint ct_lint : Value}
    {Fformed : Addr} {od_formed an_formed : Option Addr} {sl_formed : Array (Option Value)} {oc_formed kV_formed dc_formed pm_formed cd_formed ct_formed : Value}
    {Fline : Addr} {od_line an_line : Option Addr} {sl_line : Array (Option Value)} {oc_line kV_line dc_line pm_line cd_line ct_line : Value}
    {Fnumber : Addr} {od_number an_number : Option Addr} {sl_number : Array (Option Value)} {oc_number kV_number dc_number pm_number cd_number ct_number : Value}
    {Fthing : Addr} {od_thing an_thing : Option Addr} {sl_thing : Array (Option Value)} {oc_thing kV_thing dc_thing pm_thing cd_thing ct_thing : Value}
    {Ftold : Addr} {od_told an_told : Option Addr} {sl_told : Array (Option Value)} {oc_told kV_told dc_told pm_told cd_told ct_told : Value}
    {Fspoilt : Addr} {od_spoilt an_spoilt : Option Addr} {sl_spoilt : Array (Option Value)} {oc_spoilt kV_spoilt dc_spoilt pm_spoilt cd_spoilt ct_spoilt : Value}
    {Fints : Addr} {od_ints an_ints : Option Addr} {sl_ints : Array (Option Value)} {oc_ints kV_ints dc_ints pm_ints cd_ints ct_ints : Value}
    {Flaw : Addr} {od_law an_law : Option Addr} {sl_law : Array (Option Value)} {oc_law kV_law dc_law pm_law cd_law ct_law : Value}
    (a0 : PySem.W.nsIn K mainGlobals "BadValue" = some (some (.ref C)))
    (x0 : K.lookup C = some (excClassObj nm0 q0 C N0 bs0 [.ref B, .type "Exception", .type "BaseException", .type "object"] true sn0 sub0 ab0 col0 dd0 m0a m0b m0c m0d m0e "Exception.__new__"))
    (s0 : PySem.W.findIn K (.ref C) "__setattr__" = some (some (.builtin "object.__setattr__")))
    (g0 : PySem.W.findIn K (.ref C) "__getattribute__" = some (some (.builtin "BaseException.__getattribute__")))
    (h0 : PySem.W.findIn K (.ref C) "__getattr__" = some none)
    (n0 : PySem.W.findIn K (.ref C) "at" = some none)
    (c0 : PySem.W.findIn K (.ref C) "__class__" = some (some (.builtin "object.__class__")))
    (i0 : PySem.W.findIn K (.ref C) "__init__" = some (some (.ref f0)))
    (t0 : PySem.W.typeIn K (.ref f0) = some (.type "function"))
    (l0 : K.lookup f0 = some ⟨oc0, od0, .func (PySem.W.fnOf "__init__" "BadValue.__init__" (defArgs sBadValue) (defBody sBadValue) (defScope sBadValue) .none kV0 dc0 pm0 an0 cd0 ct0), sl0⟩)
    (d0 : PySem.W.codeIn K cd0 "BadValue.__init__" = true)
    (k0 : PySem.W.keepIn K (.ref f0) = true)
    (kk0 : PySem.W.keepIn K (.ref C) = true)
    (T0 : PySem.W.typeIn K (.ref C) = some (.type "type"))
    (a_isname : PySem.W.nsIn K mainGlobals "is_name" = some (some (.ref Fisname)))
    (l_isname : K.lookup Fisname = some ⟨oc_isname, od_isname, .func (PySem.W.fnOf "is_name" "is_name" (defArgs sIsName) (defBody sIsName) (defScope sIsName) .none kV_isname dc_isname pm_isname an_isname cd_isname ct_isname), sl_isname⟩)
    (c_isname : PySem.W.codeIn K cd_isname "is_name" = true)
    (k_isname : PySem.W.keepIn K (.ref Fisname) = true)
    (a_isfig : PySem.W.nsIn K mainGlobals "is_figures" = some (some (.ref Fisfig)))
    (l_isfig : K.lookup Fisfig = some ⟨oc_isfig, od_isfig, .func (PySem.W.fnOf "is_figures" "is_figures" (defArgs sIsFig) (defBody sIsFig) (defScope sIsFig) .none kV_isfig dc_isfig pm_isfig an_isfig cd_isfig ct_isfig), sl_isfig⟩)
    (c_isfig : PySem.W.codeIn K cd_isfig "is_figures" = true)
    (k_isfig : PySem.W.keepIn K (.ref Fisfig) = true)
    (a_readint : PySem.W.nsIn K mainGlobals "read_integer" = some (some (.ref Freadint)))
    (l_readint : K.lookup Freadint = some ⟨oc_readint, od_readint, .func (PySem.W.fnOf "read_integer" "read_integer" (defArgs sReadInt) (defBody sReadInt) (defScope sReadInt) .none kV_readint dc_readint pm_readint an_readint cd_readint ct_readint), sl_readint⟩)
    (c_readint : PySem.W.codeIn K cd_readint "read_integer" = true)
    (k_readint : PySem.W.keepIn K (.ref Freadint) = true)
    (a_steptext : PySem.W.nsIn K mainGlobals "step_text" = some (some (.ref Fsteptext)))
    (l_steptext : K.lookup Fsteptext = some ⟨oc_steptext, od_steptext, .func (PySem.W.fnOf "step_text" "step_text" (defArgs sStepText) (defBody sStepText) (defScope sStepText) .none kV_steptext dc_steptext pm_steptext an_steptext cd_steptext ct_steptext), sl_steptext⟩)
    (c_steptext : PySem.W.codeIn K cd_steptext "step_text" = true)
    (k_steptext : PySem.W.keepIn K (.ref Fsteptext) = true)
    (a_claimtext : PySem.W.nsIn K mainGlobals "claim_text" = some (some (.ref Fclaimtext)))
    (l_claimtext : K.lookup Fclaimtext = some ⟨oc_claimtext, od_claimtext, .func (PySem.W.fnOf "claim_text" "claim_text" (defArgs sClaimText) (defBody sClaimText) (defScope sClaimText) .none kV_claimtext dc_claimtext pm_claimtext an_claimtext cd_claimtext ct_claimtext), sl_claimtext⟩)
    (c_claimtext : PySem.W.codeIn K cd_claimtext "claim_text" = true)
    (k_claimtext : PySem.W.keepIn K (.ref Fclaimtext) = true)
    (a_readstep : PySem.W.nsIn K mainGlobals "read_step" = some (some (.ref Freadstep)))
    (l_readstep : K.lookup Freadstep = some ⟨oc_readstep, od_readstep, .func (PySem.W.fnOf "read_step" "read_step" (defArgs sReadStep) (defBody sReadStep) (defScope sReadStep) .none kV_readstep dc_readstep pm_readstep an_readstep cd_readstep ct_readstep), sl_readstep⟩)
    (c_readstep : PySem.W.codeIn K cd_readstep "read_step" = true)
    (k_readstep : PySem.W.keepIn K (.ref Freadstep) = true)
    (a_readclaim : PySem.W.nsIn K mainGlobals "read_claim" = some (some (.ref Freadclaim)))
    (l_readclaim : K.lookup Freadclaim = some ⟨oc_readclaim, od_readclaim, .func (PySem.W.fnOf "read_claim" "read_claim" (defArgs sReadClaim) (defBody sReadClaim) (defScope sReadClaim) .none kV_readclaim dc_readclaim pm_readclaim an_readclaim cd_readclaim ct_readclaim), sl_readclaim⟩)
    (c_readclaim : PySem.W.codeIn K cd_readclaim "read_claim" = true)
    (k_readclaim : PySem.W.keepIn K (.ref Freadclaim) = true)
    (a_text : PySem.W.nsIn K mainGlobals "_text" = some (some (.ref Ftext)))
    (l_text : K.lookup Ftext = some ⟨oc_text, od_text, .func (PySem.W.fnOf "_text" "_text" (defArgs sText) (defBody sText) (defScope sText) .none kV_text dc_text pm_text an_text cd_text ct_text), sl_text⟩)
    (c_text : PySem.W.codeIn K cd_text "_text" = true)
    (k_text : PySem.W.keepIn K (.ref Ftext) = true)
    (a_words : PySem.W.nsIn K mainGlobals "_words" = some (some (.ref Fwords)))
    (l_words : K.lookup Fwords = some ⟨oc_words, od_words, .func (PySem.W.fnOf "_words" "_words" (defArgs sWords) (defBody sWords) (defScope sWords) .none kV_words dc_words pm_words an_words cd_words ct_words), sl_words⟩)
    (c_words : PySem.W.codeIn K cd_words "_words" = true)
    (k_words : PySem.W.keepIn K (.ref Fwords) = true)
    (a_read : PySem.W.nsIn K mainGlobals "_read" = some (some (.ref Fread)))
    (l_read : K.lookup Fread = some ⟨oc_read, od_read, .func (PySem.W.fnOf "_read" "_read" (defArgs sRead) (defBody sRead) (defScope sRead) .none kV_read dc_read pm_read an_read cd_read ct_read), sl_read⟩)
    (c_read : PySem.W.codeIn K cd_read "_read" = true)
    (k_read : PySem.W.keepIn K (.ref Fread) = true)
    (a_readmem : PySem.W.nsIn K mainGlobals "_read_member" = some (some (.ref Freadmem)))
    (l_readmem : K.lookup Freadmem = some ⟨oc_readmem, od_readmem, .func (PySem.W.fnOf "_read_member" "_read_member" (defArgs sReadMem) (defBody sReadMem) (defScope sReadMem) .none kV_readmem dc_readmem pm_readmem an_readmem cd_readmem ct_readmem), sl_readmem⟩)
    (c_readmem : PySem.W.codeIn K cd_readmem "_read_member" = true)
    (k_readmem : PySem.W.keepIn K (.ref Freadmem) = true)
    (a_bag : PySem.W.nsIn K mainGlobals "_law_bag" = some (some (.ref Fbag)))
    (l_bag : K.lookup Fbag = some ⟨oc_bag, od_bag, .func (PySem.W.fnOf "_law_bag" "_law_bag" (defArgs sBag) (defBody sBag) (defScope sBag) .none kV_bag dc_bag pm_bag an_bag cd_bag ct_bag), sl_bag⟩)
    (c_bag : PySem.W.codeIn K cd_bag "_law_bag" = true)
    (k_bag : PySem.W.keepIn K (.ref Fbag) = true)
    (a_draw : PySem.W.nsIn K mainGlobals "_law_draw" = some (some (.ref Fdraw)))
    (l_draw : K.lookup Fdraw = some ⟨oc_draw, od_draw, .func (PySem.W.fnOf "_law_draw" "_law_draw" (defArgs sDraw) (defBody sDraw) (defScope sDraw) .none kV_draw dc_draw pm_draw an_draw cd_draw ct_draw), sl_draw⟩)
    (c_draw : PySem.W.codeIn K cd_draw "_law_draw" = true)
    (k_draw : PySem.W.keepIn K (.ref Fdraw) = true)
    (a_meets : PySem.W.nsIn K mainGlobals "_law_meets" = some (some (.ref Fmeets)))
    (l_meets : K.lookup Fmeets = some ⟨oc_meets, od_meets, .func (PySem.W.fnOf "_law_meets" "_law_meets" (defArgs sMeets) (defBody sMeets) (defScope sMeets) .none kV_meets dc_meets pm_meets an_meets cd_meets ct_meets), sl_meets⟩)
    (c_meets : PySem.W.codeIn K cd_meets "_law_meets" = true)
    (k_meets : PySem.W.keepIn K (.ref Fmeets) = true)
    (a_names : PySem.W.nsIn K mainGlobals "_law_names" = some (some (.ref Fnames)))
    (l_names : K.lookup Fnames = some ⟨oc_names, od_names, .func (PySem.W.fnOf "_law_names" "_law_names" (defArgs sNames) (defBody sNames) (defScope sNames) .none kV_names dc_names pm_names an_names cd_names ct_names), sl_names⟩)
    (c_names : PySem.W.codeIn K cd_names "_law_names" = true)
    (k_names : PySem.W.keepIn K (.ref Fnames) = true)
    (a_stepsh : PySem.W.nsIn K mainGlobals "_law_step_shapes" = some (some (.ref Fstepsh)))
    (l_stepsh : K.lookup Fstepsh = some ⟨oc_stepsh, od_stepsh, .func (PySem.W.fnOf "_law_step_shapes" "_law_step_shapes" (defArgs sStepSh) (defBody sStepSh) (defScope sStepSh) .none kV_stepsh dc_stepsh pm_stepsh an_stepsh cd_stepsh ct_stepsh), sl_stepsh⟩)
    (c_stepsh : PySem.W.codeIn K cd_stepsh "_law_step_shapes" = true)
    (k_stepsh : PySem.W.keepIn K (.ref Fstepsh) = true)
    (a_claimsh : PySem.W.nsIn K mainGlobals "_law_claim_shapes" = some (some (.ref Fclaimsh)))
    (l_claimsh : K.lookup Fclaimsh = some ⟨oc_claimsh, od_claimsh, .func (PySem.W.fnOf "_law_claim_shapes" "_law_claim_shapes" (defArgs sClaimSh) (defBody sClaimSh) (defScope sClaimSh) .none kV_claimsh dc_claimsh pm_claimsh an_claimsh cd_claimsh ct_claimsh), sl_claimsh⟩)
    (c_claimsh : PySem.W.codeIn K cd_claimsh "_law_claim_shapes" = true)
    (k_claimsh : PySem.W.keepIn K (.ref Fclaimsh) = true)
    (a_lname : PySem.W.nsIn K mainGlobals "_law_is_name" = some (some (.ref Flname)))
    (l_lname : K.lookup Flname = some ⟨oc_lname, od_lname, .func (PySem.W.fnOf "_law_is_name" "_law_is_name" (defArgs sLName) (defBody sLName) (defScope sLName) .none kV_lname dc_lname pm_lname an_lname cd_lname ct_lname), sl_lname⟩)
    (c_lname : PySem.W.codeIn K cd_lname "_law_is_name" = true)
    (k_lname : PySem.W.keepIn K (.ref Flname) = true)
    (a_lint : PySem.W.nsIn K mainGlobals "_law_integer" = some (some (.ref Flint)))
    (l_lint : K.lookup Flint = some ⟨oc_lint, od_lint, .func (PySem.W.fnOf "_law_integer" "_law_integer" (defArgs sLInt) (defBody sLInt) (defScope sLInt) .none kV_lint dc_lint pm_lint an_lint cd_lint ct_lint), sl_lint⟩)
    (c_lint : PySem.W.codeIn K cd_lint "_law_integer" = true)
    (k_lint : PySem.W.keepIn K (.ref Flint) = true)
    (a_formed : PySem.W.nsIn K mainGlobals "_law_formed" = some (some (.ref Fformed)))
    (l_formed : K.lookup Fformed = some ⟨oc_formed, od_formed, .func (PySem.W.fnOf "_law_formed" "_law_formed" (defArgs sFormed) (defBody sFormed) (defScope sFormed) .none kV_formed dc_formed pm_formed an_formed cd_formed ct_formed), sl_formed⟩)
    (c_formed : PySem.W.codeIn K cd_formed "_law_formed" = true)
    (k_formed : PySem.W.keepIn K (.ref Fformed) = true)
    (a_line : PySem.W.nsIn K mainGlobals "_law_line" = some (some (.ref Fline)))
    (l_line : K.lookup Fline = some ⟨oc_line, od_line, .func (PySem.W.fnOf "_law_line" "_law_line" (defArgs sLine) (defBody sLine) (defScope sLine) .none kV_line dc_line pm_line an_line cd_line ct_line), sl_line⟩)
    (c_line : PySem.W.codeIn K cd_line "_law_line" = true)
    (k_line : PySem.W.keepIn K (.ref Fline) = true)
    (a_number : PySem.W.nsIn K mainGlobals "_law_number" = some (some (.ref Fnumber)))
    (l_number : K.lookup Fnumber = some ⟨oc_number, od_number, .func (PySem.W.fnOf "_law_number" "_law_number" (defArgs sNumber) (defBody sNumber) (defScope sNumber) .none kV_number dc_number pm_number an_number cd_number ct_number), sl_number⟩)
    (c_number : PySem.W.codeIn K cd_number "_law_number" = true)
    (k_number : PySem.W.keepIn K (.ref Fnumber) = true)
    (a_thing : PySem.W.nsIn K mainGlobals "_law_thing" = some (some (.ref Fthing)))
    (l_thing : K.lookup Fthing = some ⟨oc_thing, od_thing, .func (PySem.W.fnOf "_law_thing" "_law_thing" (defArgs sThing) (defBody sThing) (defScope sThing) .none kV_thing dc_thing pm_thing an_thing cd_thing ct_thing), sl_thing⟩)
    (c_thing : PySem.W.codeIn K cd_thing "_law_thing" = true)
    (k_thing : PySem.W.keepIn K (.ref Fthing) = true)
    (a_told : PySem.W.nsIn K mainGlobals "_law_told" = some (some (.ref Ftold)))
    (l_told : K.lookup Ftold = some ⟨oc_told, od_told, .func (PySem.W.fnOf "_law_told" "_law_told" (defArgs sTold) (defBody sTold) (defScope sTold) .none kV_told dc_told pm_told an_told cd_told ct_told), sl_told⟩)
    (c_told : PySem.W.codeIn K cd_told "_law_told" = true)
    (k_told : PySem.W.keepIn K (.ref Ftold) = true)
    (a_spoilt : PySem.W.nsIn K mainGlobals "_law_spoilt" = some (some (.ref Fspoilt)))
    (l_spoilt : K.lookup Fspoilt = some ⟨oc_spoilt, od_spoilt, .func (PySem.W.fnOf "_law_spoilt" "_law_spoilt" (defArgs sSpoilt) (defBody sSpoilt) (defScope sSpoilt) .none kV_spoilt dc_spoilt pm_spoilt an_spoilt cd_spoilt ct_spoilt), sl_spoilt⟩)
    (c_spoilt : PySem.W.codeIn K cd_spoilt "_law_spoilt" = true)
    (k_spoilt : PySem.W.keepIn K (.ref Fspoilt) = true)
    (a_ints : PySem.W.nsIn K mainGlobals "_law_are_integers_read" = some (some (.ref Fints)))
    (l_ints : K.lookup Fints = some ⟨oc_ints, od_ints, .func (PySem.W.fnOf "_law_are_integers_read" "_law_are_integers_read" (defArgs sInts) (defBody sInts) (defScope sInts) .none kV_ints dc_ints pm_ints an_ints cd_ints ct_ints), sl_ints⟩)
    (c_ints : PySem.W.codeIn K cd_ints "_law_are_integers_read" = true)
    (k_ints : PySem.W.keepIn K (.ref Fints) = true)
    (a_law : PySem.W.nsIn K mainGlobals "law" = some (some (.ref Flaw)))
    (l_law : K.lookup Flaw = some ⟨oc_law, od_law, .func (PySem.W.fnOf "law" "law" (defArgs sLaw) (defBody sLaw) (defScope sLaw) .none kV_law dc_law pm_law an_law cd_law ct_law), sl_law⟩)
    (c_law : PySem.W.codeIn K cd_law "law" = true)
    (k_law : PySem.W.keepIn K (.ref Flaw) = true)
    (aB : PySem.W.nsIn K mainGlobals "FigureError" = some (some (.ref B)))
    (xB : PySem.W.isClsIn K B = true)
    (gB : PySem.W.specialIn K (.ref B) "__getattribute__" = some (some (.builtin "type.__getattribute__")))
    (rB : PySem.W.readsIn (mc := .type "type") K B = true)
    (iB : PySem.W.findCls K (.ref B) (.type "type") "__init__" = some (.val (.builtin "Exception.__init__")))
    (tB : PySem.W.typeIn K (.ref B) = some (.type "type"))
    (aD : PySem.W.nsIn K mainGlobals "BadClaim" = some (some (.ref D)))
    (xD : PySem.W.isClsIn K D = true)
    (tD : PySem.W.typeIn K (.ref D) = some (.type "type"))
    (sD : PySem.W.subIn K (.ref C) (.ref D) = some false)
    (oG : PySem.W.specialIn K (.builtin "object.__class__") "__get__" = some (some (.builtin "getset_descriptor.__get__")))
    (oT : PySem.W.takesIn K (.builtin "object.__class__") = some true)
    (aLets : PySem.W.nsIn K mainGlobals "LETTERS" = some (some (.str letsT tLets)))
    (aFigs : PySem.W.nsIn K mainGlobals "FIGURES" = some (some (.str figsT tFigs)))
    (aFour : PySem.W.nsIn K mainGlobals "LONGEST_NAME" = some (some (.int 4 tFour)))
    (aNine : PySem.W.nsIn K mainGlobals "MOST_FIGURES" = some (some (.int 9 tNine)))
    (aF : PySem.W.nsIn K mainGlobals "FORMS" = some (some (.ref dF)))
    (xF : K.lookup dF = some ⟨.type "dict", none, .dict eF nF, #[]⟩)
    (aP : PySem.W.nsIn K mainGlobals "POINTS" = some (some (.ref dP)))
    (xP : K.lookup dP = some ⟨.type "dict", none, .dict eP nP, #[]⟩)
    (eF_ : Ent eF.toList formsL)
    (lF_ : PySem.W.KeysLit w.params eF.toList)
    (wF_ : (dF == sysModules) = false)
    (eP_ : Ent eP.toList pointsL)
    (lP_ : PySem.W.KeysLit w.params eP.toList)
    (wP_ : (dP == sysModules) = false)
    (z_len : PySem.W.nsIn K mainGlobals "len" = some none)
    (z_int : PySem.W.nsIn K mainGlobals "int" = some none)
    (z_abs : PySem.W.nsIn K mainGlobals "abs" = some none)
    (z_str : PySem.W.nsIn K mainGlobals "str" = some none)
    (z_all : PySem.W.nsIn K mainGlobals "all" = some none)
    (z_zip : PySem.W.nsIn K mainGlobals "zip" = some none)
    (z_tuple : PySem.W.nsIn K mainGlobals "tuple" = some none)
    (z_isinstance : PySem.W.nsIn K mainGlobals "isinstance" = some none)
    (z_bool : PySem.W.nsIn K mainGlobals "bool" = some none)
    (z_list : PySem.W.nsIn K mainGlobals "list" = some none)
    (z_range : PySem.W.nsIn K mainGlobals "range" = some none) :
    ∃ fd : FuncData, (∀ (s : Shared) (v : Value), BindsTo s fd ⟨[v], []⟩ [("script", v)]) ∧ ∀ base : Heap, K.In base → base.Ns mainGlobals mg → FnOk l.prog w K mg base CX0 8 fa fd ["script"] (spLaw K) := by
  have e := hfa.symm.trans (PySem.W.mg_of X G a_law)
  cases e
  have E0 : ClsFacts K B C f0 "BadValue" "at" := ⟨a0, ⟨_, _, _, _, _, _, _, _, _, _, _, _, _, _, x0⟩, s0, g0, h0, n0, c0, i0, t0, kk0, T0⟩
  have F0 := fun_mk (st := sBadValue) l0 d0 k0
  have b0 := F0.binds (ps := ["self", "at"]) fun _ _ _ _ _ _ us hl => match us, hl with | [_, _], _ => rfl
  have Qisname := fun_mk (st := sIsName) l_isname c_isname k_isname
  have bisname := Qisname.binds (ps := ["thing"]) fun _ _ _ _ _ _ us hl => match us, hl with | [_], _ => rfl
  have misname := PySem.W.mg_of X G a_isname
  have Qisfig := fun_mk (st := sIsFig) l_isfig c_isfig k_isfig
  have bisfig := Qisfig.binds (ps := ["text", "most"]) fun _ _ _ _ _ _ us hl => match us, hl with | [_, _], _ => rfl
  have misfig := PySem.W.mg_of X G a_isfig
  have Qreadint := fun_mk (st := sReadInt) l_readint c_readint k_readint
  have breadint := Qreadint.binds (ps := ["text", "most"]) fun _ _ _ _ _ _ us hl => match us, hl with | [_, _], _ => rfl
  have mreadint := PySem.W.mg_of X G a_readint
  have Qsteptext := fun_mk (st := sStepText) l_steptext c_steptext k_steptext
  have bsteptext := Qsteptext.binds (ps := ["step"]) fun _ _ _ _ _ _ us hl => match us, hl with | [_], _ => rfl
  have msteptext := PySem.W.mg_of X G a_steptext
  have Qclaimtext := fun_mk (st := sClaimText) l_claimtext c_claimtext k_claimtext
  have bclaimtext := Qclaimtext.binds (ps := ["claim"]) fun _ _ _ _ _ _ us hl => match us, hl with | [_], _ => rfl
  have mclaimtext := PySem.W.mg_of X G a_claimtext
  have Qreadstep := fun_mk (st := sReadStep) l_readstep c_readstep k_readstep
  have breadstep := Qreadstep.binds (ps := ["text"]) fun _ _ _ _ _ _ us hl => match us, hl with | [_], _ => rfl
  have mreadstep := PySem.W.mg_of X G a_readstep
  have Qreadclaim := fun_mk (st := sReadClaim) l_readclaim c_readclaim k_readclaim
  have breadclaim := Qreadclaim.binds (ps := ["text"]) fun _ _ _ _ _ _ us hl => match us, hl with | [_], _ => rfl
  have mreadclaim := PySem.W.mg_of X G a_readclaim
  have Qtext := fun_mk (st := sText) l_text c_text k_text
  have btext := Qtext.binds (ps := ["members"]) fun _ _ _ _ _ _ us hl => match us, hl with | [_], _ => rfl
  have mtext := PySem.W.mg_of X G a_text
  have Qwords := fun_mk (st := sWords) l_words c_words k_words
  have bwords := Qwords.binds (ps := ["text"]) fun _ _ _ _ _ _ us hl => match us, hl with | [_], _ => rfl
  have mwords := PySem.W.mg_of X G a_words
  have Qread := fun_mk (st := sRead) l_read c_read k_read
  have bread := Qread.binds (ps := ["words", "form"]) fun _ _ _ _ _ _ us hl => match us, hl with | [_, _], _ => rfl
  have mread := PySem.W.mg_of X G a_read
  have Qreadmem := fun_mk (st := sReadMem) l_readmem c_readmem k_readmem
  have breadmem := Qreadmem.binds (ps := ["word", "kind"]) fun _ _ _ _ _ _ us hl => match us, hl with | [_, _], _ => rfl
  have mreadmem := PySem.W.mg_of X G a_readmem
  have Qbag := fun_mk (st := sBag) l_bag c_bag k_bag
  have bbag := Qbag.binds (ps := ["script"]) fun _ _ _ _ _ _ us hl => match us, hl with | [_], _ => rfl
  have mbag := PySem.W.mg_of X G a_bag
  have Qdraw := fun_mk (st := sDraw) l_draw c_draw k_draw
  have bdraw := Qdraw.binds (ps := ["bag", "many"]) fun _ _ _ _ _ _ us hl => match us, hl with | [_, _], _ => rfl
  have mdraw := PySem.W.mg_of X G a_draw
  have Qmeets := fun_mk (st := sMeets) l_meets c_meets k_meets
  have bmeets := Qmeets.binds (ps := ["told", "due"]) fun _ _ _ _ _ _ us hl => match us, hl with | [_, _], _ => rfl
  have mmeets := PySem.W.mg_of X G a_meets
  have Qnames := fun_mk (st := sNames) l_names c_names k_names
  have bnames := Qnames.binds (ps := ["bag", "many"]) fun _ _ _ _ _ _ us hl => match us, hl with | [_, _], _ => rfl
  have mnames := PySem.W.mg_of X G a_names
  have Qstepsh := fun_mk (st := sStepSh) l_stepsh c_stepsh k_stepsh
  have bstepsh := Qstepsh.binds (ps := []) fun _ _ _ _ _ _ us hl => match us, hl with | [], _ => rfl
  have mstepsh := PySem.W.mg_of X G a_stepsh
  have Qclaimsh := fun_mk (st := sClaimSh) l_claimsh c_claimsh k_claimsh
  have bclaimsh := Qclaimsh.binds (ps := []) fun _ _ _ _ _ _ us hl => match us, hl with | [], _ => rfl
  have mclaimsh := PySem.W.mg_of X G a_claimsh
  have Qlname := fun_mk (st := sLName) l_lname c_lname k_lname
  have blname := Qlname.binds (ps := ["word"]) fun _ _ _ _ _ _ us hl => match us, hl with | [_], _ => rfl
  have mlname := PySem.W.mg_of X G a_lname
  have Qlint := fun_mk (st := sLInt) l_lint c_lint k_lint
  have blint := Qlint.binds (ps := ["word"]) fun _ _ _ _ _ _ us hl => match us, hl with | [_], _ => rfl
  have mlint := PySem.W.mg_of X G a_lint
  have Qformed := fun_mk (st := sFormed) l_formed c_formed k_formed
  have bformed := Qformed.binds (ps := ["text", "shapes"]) fun _ _ _ _ _ _ us hl => match us, hl with | [_, _], _ => rfl
  have mformed := PySem.W.mg_of X G a_formed
  have Qline := fun_mk (st := sLine) l_line c_line k_line
  have bline := Qline.binds (ps := ["parts"]) fun _ _ _ _ _ _ us hl => match us, hl with | [_], _ => rfl
  have mline := PySem.W.mg_of X G a_line
  have Qnumber := fun_mk (st := sNumber) l_number c_number k_number
  have bnumber := Qnumber.binds (ps := ["bag"]) fun _ _ _ _ _ _ us hl => match us, hl with | [_], _ => rfl
  have mnumber := PySem.W.mg_of X G a_number
  have Qthing := fun_mk (st := sThing) l_thing c_thing k_thing
  have bthing := Qthing.binds (ps := ["bag", "names", "shapes", "is_proper"]) fun _ _ _ _ _ _ us hl => match us, hl with | [_, _, _, _], _ => rfl
  have mthing := PySem.W.mg_of X G a_thing
  have Qtold := fun_mk (st := sTold) l_told c_told k_told
  have btold := Qtold.binds (ps := ["text", "is_step"]) fun _ _ _ _ _ _ us hl => match us, hl with | [_, _], _ => rfl
  have mtold := PySem.W.mg_of X G a_told
  have Qspoilt := fun_mk (st := sSpoilt) l_spoilt c_spoilt k_spoilt
  have bspoilt := Qspoilt.binds (ps := ["bag", "text"]) fun _ _ _ _ _ _ us hl => match us, hl with | [_, _], _ => rfl
  have mspoilt := PySem.W.mg_of X G a_spoilt
  have Qints := fun_mk (st := sInts) l_ints c_ints k_ints
  have bints := Qints.binds (ps := ["bag", "names"]) fun _ _ _ _ _ _ us hl => match us, hl with | [_, _], _ => rfl
  have mints := PySem.W.mg_of X G a_ints
  have Qlaw := fun_mk (st := sLaw) l_law c_law k_law
  refine ⟨PySem.W.fnOf "law" "law" (defArgs sLaw) (defBody sLaw) (defScope sLaw) .none kV_law dc_law pm_law an_law cd_law ct_law, fun s v => .of_eq rfl, fun base _ _ => ?_⟩
  have mz : ∀ {x : Str}, PySem.W.nsIn K mainGlobals x = some none → mg x = none := fun q => PySem.W.mg_none_of X G q
  have clB : (PySem.W.clsIn K B).isSome = true := xB
  have mB := PySem.W.mg_of X G aB
  have clC : (PySem.W.clsIn K C).isSome = true := by
    obtain ⟨cd, q, _⟩ := E0.cls
    rw [q]
    rfl
  have CD : C ≠ D := fun z => by
    rw [← z, E0.sub] at sD
    simp [line] at sD
  have U : ValTxt l.prog w K mg base B C D f0 _ := ⟨PySem.W.mg_of X G a0, E0.err, i0, t0, n0, b0, iniBadValue F0 ⟨gB, rB, iB⟩ mB, mB, PySem.W.mg_of X G aD,
    exm_of_cls E0.err.exC clC T0 ((E0.sub _).trans (by simp [line])), kit_of_cls clB tB ((E0.sub _).trans (by simp [line])) (fun _ => rfl), kit_of_cls xD tD sD (fun z => absurd z CD), E0.ask oG oT, E0.xf⟩
  have TP : ProgTxt K mg := ⟨mz z_isinstance, mz z_str, mz z_len, mz z_all, mz z_int, mz z_zip, mz z_tuple, ⟨_, PySem.W.mg_of X G aLets⟩, ⟨_, PySem.W.mg_of X G aFigs⟩, ⟨_, PySem.W.mg_of X G aFour⟩, ⟨_, PySem.W.mg_of X G aNine⟩⟩
  have TL_ : LawTxt mg := ⟨mz z_len, mz z_int, mz z_str, mz z_tuple, mz z_list, mz z_range, mz z_isinstance⟩
  have TB : BagTxt K mg := ⟨mz z_len, mz z_int, mz z_abs⟩
  have TM : MeetsTxt K mg Fmeets := ⟨mz z_isinstance, mz z_tuple, mz z_str, mz z_bool, mz z_int, mz z_len, mz z_range, mmeets, k_meets⟩
  have TF : FormsTxt K w mg dF dP eF eP nF nP := ⟨PySem.W.mg_of X G aF, ⟨xF, lF_, wF_⟩, forms_of xF eF_, PySem.W.mg_of X G aP, ⟨xP, lP_, wP_⟩, points_of xP eP_⟩
  have Gname := ok_isname (P := l.prog) (w := w) (base := base) Qisname TP
  have Gfig := ok_isfig (P := l.prog) (w := w) (base := base) Qisfig TP
  have TI : IntTxt l.prog w K mg base Fisfig Fisname Freadint _ _ _ := ⟨Gfig, bisfig, misfig, k_isfig, Gname, bisname, misname, k_isname, breadint, mreadint, k_readint⟩
  have Gint := ok_readint Qreadint TP TI
  have Gmem := ok_readmem Qreadmem TP TI Gint
  have Gtext := ok_text (P := l.prog) (w := w) (base := base) Qtext TP
  have Gwords := ok_words Qwords TP U
  have Gread := ok_read Qread TP U ⟨Gmem, breadmem, mreadmem, k_readmem⟩
  have TW : WordTxt l.prog w K mg base C Fwords Fread _ _ := ⟨Gwords, bwords, mwords, k_words, Gread, bread, mread, k_read⟩
  have Grs := ok_readstep Qreadstep U TW TF
  have Grc := ok_readclaim Qreadclaim U TW TF
  have Gst := ok_steptext Qsteptext Gtext btext mtext k_text
  have Gct := ok_claimtext Qclaimtext Gtext btext mtext k_text
  have Gdraw := ok_draw (P := l.prog) (w := w) (base := base) Qdraw TB
  have Gbag := ok_bag (P := l.prog) (w := w) (base := base) Qbag TB
  have TD : DrawTxt l.prog w K mg base Fdraw _ := ⟨Gdraw, bdraw, mdraw, k_draw⟩
  have Gm0 := ok_meets0 (P := l.prog) (w := w) (base := base) Qmeets TM
  have Gmeets := ok_meets Qmeets bmeets TM Gm0
  have GmH := ok_meetsH (P := l.prog) (w := w) (base := base) Qmeets TM
  have Gln := ok_lname (P := l.prog) (w := w) (base := base) Qlname TL_
  have Gli := ok_lint (P := l.prog) (w := w) (base := base) Qlint TL_
  have Gline := ok_line (P := l.prog) (w := w) (base := base) Qline TL_
  have Gform : ∀ b, FnOk l.prog w K mg base CX0 2 Fformed _ ["text", "shapes"] (spFormed b) := fun b => ok_formed Qformed TL_ ⟨Gln, blname, mlname, k_lname, Gli, blint, mlint, k_lint⟩
  have Gssh := ok_stepsh (P := l.prog) (w := w) (mg := mg) (base := base) Qstepsh
  have Gcsh := ok_claimsh (P := l.prog) (w := w) (mg := mg) (base := base) Qclaimsh
  have Gnam := ok_names Qnames TL_ TD
  have Gnum := ok_number Qnumber TD
  have Gthing : ∀ b, FnOk l.prog w K mg base CX0 3 Fthing _ ["bag", "names", "shapes", "is_proper"] (spThing b) := fun b => ok_thing Qthing TL_ TD ⟨Gnum, bnumber, mnumber, k_number⟩
  have Gtold := ok_told Qtold TL_ U ⟨Grs, breadstep, mreadstep, k_readstep, Grc, kw_one Qreadclaim (fun _ _ _ _ _ _ _ => rfl), mreadclaim, k_readclaim, GmH, bmeets, mmeets, k_meets⟩
  have Gsp := ok_spoilt Qspoilt TL_ TD
  have TJ : JudgeTxt l.prog w K mg base Fformed Fstepsh Fclaimsh Ftold Fmeets _ _ _ _ _ := ⟨Gform, bformed, mformed, k_formed, Gssh, bstepsh, mstepsh, k_stepsh, Gcsh, bclaimsh, mclaimsh, k_claimsh, Gtold, btold, mtold, k_told, Gmeets, bmeets, mmeets, k_meets⟩
  have Gints := ok_ints Qints TL_ TD TJ
  exact ok_law Qlaw TL_ TD TJ ⟨Gbag, bbag, mbag, k_bag, Gnam, bnames, mnames, k_names, Gints, bints, mints, k_ints, Gthing, bthing, mthing, k_thing, Gline, bline, mline, k_line, Gst, kw_one Qsteptext (fun _ _ _ _ _ _ _ => rfl), msteptext, k_steptext, Gct, kw_one Qclaimtext (fun _ _ _ _ _ _ _ => rfl), mclaimtext, k_claimtext, Gsp, bspoilt, mspoilt, k_spoilt⟩
end K4

set_option Elab.async false
set_option linter.all false
set_option maxRecDepth 100000
namespace K4
open PySem L2
theorem walk {l : PySem.W.OpenLaw} {q : Program} {loose : List Str} {XP : (Str → Option Value) → Heap → Prop} {YP : World → Heap → Prop} {d : DefRec} {K : Params → PySem.W.Frag} (hn : l.most = some 63) (hdf : d.params.defaults = [])
    (hY : ∀ (w : World) (h : Heap), YP w h → (K w.params).In h)
    (F : ∀ (w : World) (mg : Str → Option Value) (fa : Addr) (h : Heap), XP mg h → (K w.params).In h → h.Ns mainGlobals mg → mg d.name = some (.ref fa) →
      ∃ fd : FuncData, (∀ (s : Shared) (u : Value), BindsTo s fd ⟨[u], []⟩ [("script", u)]) ∧ ∀ base : Heap, (K w.params).In base → base.Ns mainGlobals mg → FnOk l.prog w (K w.params) mg base CX0 8 fa fd ["script"] (spLaw (K w.params))) :
    PySem.W.WalkO q loose XP YP l.row.toRowW d [] (fun f vs => PySem.call f vs) := by
  refine Att.attach_call hn hdf fun w s₀ s₁ mg mb fa o pm cd doc a vs ns GG Y ho hd hcd hmg hobj hints hlen hg => ?_
  have KX := hY w _ Y
  obtain ⟨fd, hb, hF⟩ := F w mg fa _ GG.X KX GG.T.g hmg
  exact law_call (k := 8) KX GG.T.g GG.T.b GG.T.builtins GG.T.nolimit hg hobj hints (Nat.le_trans hlen (by decide)) ⟨rfl, by decide, by decide⟩ hF hb (fun H hO hS => ⟨a, ns, rfl, hS, by omega, fun _ => rfl⟩) fun _ _ _ z => z
end K4
open PySem PySem.W PyProof.Rows in
set_option maxRecDepth 100000 in
set_option maxHeartbeats 0 in
theorem PySem.Challenge.cw_figurehold_k41_texts_of_steps_and_claims_holds : PySem.Challenge.rw_figurehold_k41_texts_of_steps_and_claims.Holds := by
  w_on; o_law; k_head; (case hw => w_witness2)
  k_fill
  refine K4.walk (l := PySem.Challenge.rw_figurehold_k41_texts_of_steps_and_claims) rfl rfl (fun w h Y => PySem.W.kIn_of Y) ?F
  case F =>
    intro w mg fa h XX KX G hmg
    refine' K4.all_mk KX G hmg ?zz_a0 ?zz_x0 ?zz_s0 ?zz_g0 ?zz_h0 ?zz_n0 ?zz_c0 ?zz_i0 ?zz_t0 ?zz_l0 ?zz_d0 ?zz_k0 ?zz_kk0 ?zz_T0 ?zz_a_isname ?zz_l_isname ?zz_c_isname ?zz_k_isname ?zz_a_isfig ?zz_l_isfig ?zz_c_isfig ?zz_k_isfig ?zz_a_readint ?zz_l_readint ?zz_c_readint ?zz_k_readint ?zz_a_steptext ?zz_l_steptext ?zz_c_steptext ?zz_k_steptext ?zz_a_claimtext ?zz_l_claimtext ?zz_c_claimtext ?zz_k_claimtext ?zz_a_readstep ?zz_l_readstep ?zz_c_readstep ?zz_k_readstep ?zz_a_readclaim ?zz_l_readclaim ?zz_c_readclaim ?zz_k_readclaim ?zz_a_text ?zz_l_text ?zz_c_text ?zz_k_text ?zz_a_words ?zz_l_words ?zz_c_words ?zz_k_words ?zz_a_read ?zz_l_read ?zz_c_read ?zz_k_read ?zz_a_readmem ?zz_l_readmem ?zz_c_readmem ?zz_k_readmem ?zz_a_bag ?zz_l_bag ?zz_c_bag ?zz_k_bag ?zz_a_draw ?zz_l_draw ?zz_c_draw ?zz_k_draw ?zz_a_meets ?zz_l_meets ?zz_c_meets ?zz_k_meets ?zz_a_names ?zz_l_names ?zz_c_names ?zz_k_names ?zz_a_stepsh ?zz_l_stepsh ?zz_c_stepsh ?zz_k_stepsh ?zz_a_claimsh ?zz_l_claimsh ?zz_c_claimsh ?zz_k_claimsh ?zz_a_lname ?zz_l_lname ?zz_c_lname ?zz_k_lname ?zz_a_lint ?zz_l_lint ?zz_c_lint ?zz_k_lint ?zz_a_formed ?zz_l_formed ?zz_c_formed ?zz_k_formed ?zz_a_line ?zz_l_line ?zz_c_line ?zz_k_line ?zz_a_number ?zz_l_number ?zz_c_number ?zz_k_number ?zz_a_thing ?zz_l_thing ?zz_c_thing ?zz_k_thing ?zz_a_told ?zz_l_told ?zz_c_told ?zz_k_told ?zz_a_spoilt ?zz_l_spoilt ?zz_c_spoilt ?zz_k_spoilt ?zz_a_ints ?zz_l_ints ?zz_c_ints ?zz_k_ints ?zz_a_law ?zz_l_law ?zz_c_law ?zz_k_law ?zz_aB ?zz_xB ?zz_gB ?zz_rB ?zz_iB ?zz_tB ?zz_aD ?zz_xD ?zz_tD ?zz_sD ?zz_oG ?zz_oT ?zz_aLets ?zz_aFigs ?zz_aFour ?zz_aNine ?zz_aF ?zz_xF ?zz_aP ?zz_xP ?zz_eF_ ?zz_lF_ ?zz_wF_ ?zz_eP_ ?zz_lP_ ?zz_wP_ ?zz_z_len ?zz_z_int ?zz_z_abs ?zz_z_str ?zz_z_all ?zz_z_zip ?zz_z_tuple ?zz_z_isinstance ?zz_z_bool ?zz_z_list ?zz_z_range
    (case zz_a0 => k_is)
    (case zz_x0 => k_is)
    (case zz_s0 => k_is)
    (case zz_g0 => k_is)
    (case zz_h0 => k_is)
    (case zz_n0 => k_is)
    (case zz_c0 => k_is)
    (case zz_i0 => k_is)
    (case zz_t0 => k_is)
    (case zz_l0 => k_is)
    (case zz_d0 => k_is)
    (case zz_k0 => k_is)
    (case zz_kk0 => k_is)
    (case zz_T0 => k_is)
    (case zz_a_isname => k_is)
    (case zz_l_isname => k_is)
    (case zz_c_isname => k_is)
    (case zz_k_isname => k_is)
    (case zz_a_isfig => k_is)
    (case zz_l_isfig => k_is)
    (case zz_c_isfig => k_is)
    (case zz_k_isfig => k_is)
    (case zz_a_readint => k_is)
    (case zz_l_readint => k_is)
    (case zz_c_readint => k_is)
    (case zz_k_readint => k_is)
    (case zz_a_steptext => k_is)
    (case zz_l_steptext => k_is)
    (case zz_c_steptext => k_is)
    (case zz_k_steptext => k_is)
    (case zz_a_claimtext => k_is)
    (case zz_l_claimtext => k_is)
    (case zz_c_claimtext => k_is)
    (case zz_k_claimtext => k_is)
    (case zz_a_readstep => k_is)
    (case zz_l_readstep => k_is)
    (case zz_c_readstep => k_is)
    (case zz_k_readstep => k_is)
    (case zz_a_readclaim => k_is)
    (case zz_l_readclaim => k_is)
    (case zz_c_readclaim => k_is)
    (case zz_k_readclaim => k_is)
    (case zz_a_text => k_is)
    (case zz_l_text => k_is)
    (case zz_c_text => k_is)
    (case zz_k_text => k_is)
    (case zz_a_words => k_is)
    (case zz_l_words => k_is)
    (case zz_c_words => k_is)
    (case zz_k_words => k_is)
    (case zz_a_read => k_is)
    (case zz_l_read => k_is)
    (case zz_c_read => k_is)
    (case zz_k_read => k_is)
    (case zz_a_readmem => k_is)
    (case zz_l_readmem => k_is)
    (case zz_c_readmem => k_is)
    (case zz_k_readmem => k_is)
    (case zz_a_bag => k_is)
    (case zz_l_bag => k_is)
    (case zz_c_bag => k_is)
    (case zz_k_bag => k_is)
    (case zz_a_draw => k_is)
    (case zz_l_draw => k_is)
    (case zz_c_draw => k_is)
    (case zz_k_draw => k_is)
    (case zz_a_meets => k_is)
    (case zz_l_meets => k_is)
    (case zz_c_meets => k_is)
    (case zz_k_meets => k_is)
    (case zz_a_names => k_is)
    (case zz_l_names => k_is)
    (case zz_c_names => k_is)
    (case zz_k_names => k_is)
    (case zz_a_stepsh => k_is)
    (case zz_l_stepsh => k_is)
    (case zz_c_stepsh => k_is)
    (case zz_k_stepsh => k_is)
    (case zz_a_claimsh => k_is)
    (case zz_l_claimsh => k_is)
    (case zz_c_claimsh => k_is)
    (case zz_k_claimsh => k_is)
    (case zz_a_lname => k_is)
    (case zz_l_lname => k_is)
    (case zz_c_lname => k_is)
    (case zz_k_lname => k_is)
    (case zz_a_lint => k_is)
    (case zz_l_lint => k_is)
    (case zz_c_lint => k_is)
    (case zz_k_lint => k_is)
    (case zz_a_formed => k_is)
    (case zz_l_formed => k_is)
    (case zz_c_formed => k_is)
    (case zz_k_formed => k_is)
    (case zz_a_line => k_is)
    (case zz_l_line => k_is)
    (case zz_c_line => k_is)
    (case zz_k_line => k_is)
    (case zz_a_number => k_is)
    (case zz_l_number => k_is)
    (case zz_c_number => k_is)
    (case zz_k_number => k_is)
    (case zz_a_thing => k_is)
    (case zz_l_thing => k_is)
    (case zz_c_thing => k_is)
    (case zz_k_thing => k_is)
    (case zz_a_told => k_is)
    (case zz_l_told => k_is)
    (case zz_c_told => k_is)
    (case zz_k_told => k_is)
    (case zz_a_spoilt => k_is)
    (case zz_l_spoilt => k_is)
    (case zz_c_spoilt => k_is)
    (case zz_k_spoilt => k_is)
    (case zz_a_ints => k_is)
    (case zz_l_ints => k_is)
    (case zz_c_ints => k_is)
    (case zz_k_ints => k_is)
    (case zz_a_law => k_is)
    (case zz_l_law => k_is)
    (case zz_c_law => k_is)
    (case zz_k_law => k_is)
    (case zz_aB => k_is)
    (case zz_xB => k_is)
    (case zz_gB => k_is)
    (case zz_rB => k_is)
    (case zz_iB => k_is)
    (case zz_tB => k_is)
    (case zz_aD => k_is)
    (case zz_xD => k_is)
    (case zz_tD => k_is)
    (case zz_sD => k_is)
    (case zz_oG => k_is)
    (case zz_oT => k_is)
    (case zz_aLets => k_is)
    (case zz_aFigs => k_is)
    (case zz_aFour => k_is)
    (case zz_aNine => k_is)
    (case zz_aF => k_is)
    (case zz_xF => k_is)
    (case zz_aP => k_is)
    (case zz_xP => k_is)
    (case zz_eF_ => (repeat (first | exact K4.Ent.nil | refine K4.Ent.cons ⟨_, rfl⟩ ?_)))
    (case zz_lF_ => (repeat (first | exact True.intro | refine ⟨⟨_, _, rfl, rfl⟩, ?_⟩)))
    (case zz_wF_ => first | rfl | decide | decide +kernel)
    (case zz_eP_ => (repeat (first | exact K4.Ent.nil | refine K4.Ent.cons ⟨_, rfl⟩ ?_)))
    (case zz_lP_ => (repeat (first | exact True.intro | refine ⟨⟨_, _, rfl, rfl⟩, ?_⟩)))
    (case zz_wP_ => first | rfl | decide | decide +kernel)
    (case zz_z_len => k_is)
    (case zz_z_int => k_is)
    (case zz_z_abs => k_is)
    (case zz_z_str => k_is)
    (case zz_z_all => k_is)
    (case zz_z_zip => k_is)
    (case zz_z_tuple => k_is)
    (case zz_z_isinstance => k_is)
    (case zz_z_bool => k_is)
    (case zz_z_list => k_is)
    (case zz_z_range => k_is)
#print axioms PySem.Challenge.cw_figurehold_k41_texts_of_steps_and_claims_holds

